import PyProof.Rows.All
import Wide.All
import OpenK.AllK
import Wide.FinOn
import HandS.Base
import HandS.Call
import HandS.Ends
import HandS.Words
import HandS.List
import PyProof.EqAt
import PyProof.EqKinds
import PyProof.TupleCall
import KE.KRevSl
import HandS.SetFor
import HandS.Strs
import HandS.Wide
import HandS.ForMost
import HandS.IsInst
import HandS.Zip
import HandS.TupAny
import HandS.Exc
import HandS.ExcOwn
import HandS.ExcValue
import HandS.ExcInit
import HandS.ExcIs
import HandS.RaiseMore
import KE.KExcIs
import KE.KCallOwn
import HandS.ExcField
import HandS.TryMany
import KE.KTryMore
import HandS.Dict
import HandS.WordsExc
import HandS.Text
import HandS.Conv
import PySem.Challenge.RW_setchooser_k01_whole_errors
set_option Elab.async false
set_option linter.all false
set_option maxRecDepth 100000
set_option maxHeartbeats 4000000
/-! Gd: defs that are called where no repr is under way (what stands around has no guards), for laws that compare by repr. -/
namespace Gd
open PySem PySem.Spec PyProof.Rows L2
section
variable {P : Program} {w : World} {K : PySem.W.Frag} {mg : Str → Option Value} {base : Heap} {CX : CXT}

/-- as FnOk, wherever no guard stands around -/
structure FnG (P : Program) (w : World) (K : PySem.W.Frag) (mg : Str → Option Value) (base : Heap) (CX : CXT) (k : Nat) (f : Addr) (fd : FuncData) (ps : List Str) (sp : Sp) : Prop where
  lenG : ∀ us H Q E, sp us H Q E → us.length = ps.length
  runG : ∀ (B : Around) (fs : List Env) (t : Shared) (H : Hp) (as : Args) (ws : List Value) (us : List V) (Q : VK) (E : XK), Room k B → B.guards = some [] → Env0 P w K mg base B fs t H →
    BindsTo t fd as (ps.zip ws) → Vals us ws → sp us H Q E → codeAny (model P w) B (.call (.ref f) as) (CR CX fs P w H t Q E) t

theorem FnG.of {k : Nat} {f : Addr} {fd : FuncData} {ps : List Str} {sp : Sp} (F : FnOk P w K mg base CX k f fd ps sp) : FnG P w K mg base CX k f fd ps sp :=
  ⟨F.len, fun B fs t H as ws us Q E r _ e b v q => F.run B fs t H as ws us Q E r e b v q⟩

/-- a def of the text, by its body, where no guard stands around -/
theorem def_ok {x qual : Str} {st : Stmt} {f : Addr} {fd : FuncData} {N ps : List Str} {k : Nat} {sp : Sp} (F : Fun K x qual st f fd) (S : FnScope N ps (defScope st)) (hl : ∀ us H Q E, sp us H Q E → us.length = ps.length)
    (hb : ∀ (cd : Value) (B : Around) (fs : List Env) (t : Shared) (H : Hp) (us : List V) (Q : VK) (E : XK), Room k (B.deeper (envOfC qual (defScope st) t.heap.objs.size f cd)) → B.guards = some [] → sp us H Q E →
      ∃ r, PSs (cxOf CX P w K mg base N qual (defScope st) f cd B fs t H E).nox (defBody st) r ∧ r { nx := fun _ G => Q .non G, rt := Q } (start N us) H) : FnG P w K mg base CX (k + 1) f fd ps sp := by
  obtain ⟨oc, od, kV, doc, pm, an, cd, ct, osl, rfl, lk, hc⟩ := F.ex
  constructor
  · exact hl
  intro B fs t H as ws us Q E hr hg e0 hbd hv hq
  have e0b := e0.bs
  have inK : K.In t.heap := e0.mod.kin.keeps fun b o z => (e0b b o z).1
  have few := hl _ _ _ _ hq
  refine codeAny_call_function hr.depth (inK _ _ lk) rfl S.co S.gen rfl (PySem.W.codeRec_of inK hc) (hbd _ _ _ _ ?_)
  apply wpAny_newFunctionEnv_cells S.kind
  · rintro ⟨n, u⟩ hy
    cases S.par n (List.of_mem_zip hy).1 with
    | inl z => exact Or.inl z
    | inr z => exact Or.inr ⟨z, PySem.W.cellsFrom_some _ _ _ (Or.inl z)⟩
  intro env he t1 hx
  subst he
  constructor
  · exact Heap.NoLimit.keeps (e0.mod.nolimit.keeps fun b o z => (e0b b o z).1) hx.toInCall.keep
  apply codeAny_func
  obtain ⟨r, hpss, hrd⟩ := hb cd B fs t H us Q E (hr.deeper _) hg hq
  have J := inv_start (CX := CX) (E := E) S hr.hd e0 few hv hx
  apply wpAny_mono (hpss.nox.run [] t1 (start N us) H _ J hrd)
  · intro fl t2 h2
    cases fl with
    | next =>
      obtain ⟨σ2, G, J2, z⟩ := h2
      exact ⟨V.non, G, J2.os, J2.bare, J2.base, J2.hok, (rfl : Value.none = Value.none), z⟩
    | ret u =>
      obtain ⟨v, σ2, G, J2, rv, z⟩ := h2
      exact ⟨v, G, J2.os, J2.bare, J2.base, J2.hok, rv, z⟩
    | brk => exact (h2.elim fun _ h3 => h3.elim fun _ h4 => h4.2).elim
    | cont => exact (h2.elim fun _ h3 => h3.elim fun _ h4 => h4.2).elim
  · intro _ _ z
    exact z
end
section
variable {X : Cx} {CX : CXT} {k : Nat} {f : Addr} {fd : FuncData} {ps : List Str} {sp : Sp} {E : XK} {x : Str} {p pos : Pos} {e : Expr} {es : List Expr} {t : TA}
/-- a call of such a def -/
theorem call_ok (F : FnG X.prog X.w X.K X.mg X.base CX k f fd ps sp) (hr : Room k X.A) (hgd : X.A.guards = some []) (hg : Gl X x) (hm : X.mg x = some (.ref f)) (hk : PySem.W.keepIn X.K (.ref f) = true) (hb : Binds X.K fd ps []) (hx : Passes CX X E)
    (ha : PA X (e :: es) t) (hdb : (x == ("__debug__" : Str)) = false := by decide) (h1 : starEach (e :: es) X.env = (false, eval e X.env) :: starEach es X.env := by rfl) (h2 : (backTo pos (starEach es X.env)).any (·.1) = false := by rfl) :
    PE X (.Call (.Name x p) (e :: es) [] pos) (tCall sp [] E t) := by
  constructor
  intro pins s σ H Q I h
  refine wpAny_Call_Name_kw (ld_glob I hg hm (PySem.W.callWith_K (h₀ := X.base) I.ok.mod.kin hk ?_ h1 h2) hdb)
  refine thn (ha.run pos pins s σ H _ I h) ?_
  rintro us s1 ⟨vs, H1, J, r, q⟩
  refine ⟨J.kIn, wpAny_call ?_⟩
  have q : sp (vs ++ []) H1 Q E := q
  rw [List.append_nil] at q
  have z : (us ++ []).length = ps.length := by rw [List.append_nil, ← r.length]; exact F.lenG _ _ _ _ q
  have bd := hb s1 us J.kIn z
  rw [List.append_nil] at bd
  apply codeAny_mono (F.runG X.A X.stack s1 H1 ⟨us, []⟩ us vs Q E hr hgd J.env0 bd r q)
  intro res s2 h3
  rcases res with u | fl
  · exact hx pins σ H1 s1 _ s2 J h3
  · cases fl with
    | ret u => exact J.after h3
    | _ => exact (show False from h3).elim
end
/-- repr of data without dicts, where no guard stands around -/
def rRepr (K : PySem.W.Frag) : List V → Hp → VK → Prop := fun vs H Q => ∃ (a : Addr) (d : PyData), vs = [.ref a] ∧ Dp K H (.ref a) d ∧ d.showable = true ∧ d.hasDict = false ∧ d.depth < 60 ∧ d.shown.length ≤ sizeLine ∧ Q (.str d.shown) H
theorem call_repr {X : Cx} (hgd : X.A.guards = some []) (hu : X.A.units + 64 < cLine) : CallR X (.builtin "repr") (rRepr X.K) := by
  intro pins s σ H vs us Q I r h
  obtain ⟨a, d, rfl, hd, h1, h2, h3, h4, q⟩ := h
  obtain ⟨u, rfl, ru⟩ := vals1 r
  cases (show u = Value.ref a from ru)
  obtain ⟨as, hR⟩ := Dp.reads I d (.ref a) (.ref a) hd rfl
  refine repr_of_reads' hR h1 (PyData.noDict_hsm h2) hgd (by omega) (fun _ _ z => z) (fun h' u tk hk => ?_) h4
  exact ⟨.str d.shown, H, I.kept (t' := tk) hk, ⟨u, rfl⟩, q⟩
end Gd

namespace Gd
open PySem PySem.Spec PyProof.Rows L2
/-- the law's own call, behind the top -/
theorem law_run {P : Program} {w : World} {K : PySem.W.Frag} {mg mb : Str → Option Value} {k : Nat} {fa a : Addr} {fd : FuncData} {x : Str} {sp : Sp} {t : Shared} {vs : List Value} {ns : List Int}
    (inK : K.In t.heap) (hmg : t.heap.Ns mainGlobals mg) (hmb : t.heap.Ns builtinsNs mb) (hbb : ∀ y : Str, y ≠ "__name__" → mb y = bootBuiltins y) (hnl : t.heap.NoLimit) (hgen : t.gens = #[])
    (hobj : t.heap.get? a = some { cls := .type "list", data := .seq vs.toArray }) (hints : IntsAre vs ns) (hlen : ns.length ≤ sizeLine) (room : Room k callerA)
    (F : ∀ base : Heap, K.In base → base.Ns mainGlobals mg → FnG P w K mg base CX0 k fa fd [x] sp) (hbind : ∀ (s : Shared) (u : Value), BindsTo s fd ⟨[u], []⟩ [(x, u)])
    (hsp : ∀ H : Hp, SqL K H a (ns.map V.int) → sp [.ref a] H (fun v _ => v = .bl true) fun _ _ _ => False) :
    codeAny (model P w) callerA (.call (.ref fa) ⟨[.ref a], []⟩) (fun r t' => r = .ok (.ret (.bool true)) ∧ OldK t.heap t'.heap ∧ t'.os = t.os ∧ AllBare t'.gens) t := by
  have hv := vals_ints hints
  let ob : Obj := { cls := .type "list", data := .seq vs.toArray }
  -- whatever is tracked is the script, as it lies
  suffices main : ∀ H : Hp, (∀ b u, H b = some u → b = a ∧ u = .frz ob (.lst (ns.map V.int)) ∧ K.lookup a = none) → SqL K H a (ns.map V.int) →
      codeAny (model P w) callerA (.call (.ref fa) ⟨[.ref a], []⟩) (fun r t' => r = .ok (.ret (.bool true)) ∧ OldK t.heap t'.heap ∧ t'.os = t.os ∧ AllBare t'.gens) t by
    cases hk : K.lookup a with
    | none =>
      apply main fun b => if b = a then some (.frz ob (.lst (ns.map V.int))) else none
      · intro b u z
        by_cases hb : b = a
        · rw [if_pos hb] at z
          exact ⟨hb, (Option.some.inj z).symm, hk⟩
        · rw [if_neg hb] at z
          cases z
      · exact Or.inl (Or.inr ⟨ob, if_pos rfl⟩)
    | some o =>
      have z := inK a o hk
      rw [hobj] at z
      cases z
      apply main fun _ => none
      · intro b u z
        cases z
      · exact Or.inr ⟨_, vs.toArray, _, hk, rfl, rfl, rfl, by rw [List.size_toArray, hints.length]; exact hlen, by simpa using hv⟩
  intro H hH hS
  have hok : HOk P w H t.heap := fun b u z => by
    obtain ⟨rfl, rfl, _⟩ := hH b u z
    exact ⟨hobj, by rw [List.length_map]; exact hlen, vs, _, hv, hobj⟩
  have free : ∀ {b o}, t.heap.get? b = some o → o ≠ ob → H b = none := fun {b o} z ne => by
    cases q : H b with
    | none => rfl
    | some u =>
      obtain ⟨rfl, _, _⟩ := hH b u q
      rw [hobj] at z
      exact absurd (Option.some.inj z).symm ne
  have nsH : ∀ {b m}, t.heap.Ns b m → (hidT t.heap H).Ns b m := fun {b m} ⟨o, es, ep, z, d, r⟩ => by
    refine ⟨o, es, ep, hidT_get z (free z fun q => ?_), d, r⟩
    rw [q] at d
    exact nomatch (show Data.seq vs.toArray _ = Data.dict es ep from d)
  have inKH : K.In (hidT t.heap H) := fun b o z => hidT_get (inK b o z) (by
    cases q : H b with
    | none => rfl
    | some u =>
      obtain ⟨rfl, _, n⟩ := hH b u q
      rw [n] at z
      cases z)
  obtain ⟨mc, l1, l2⟩ := hnl
  have e0 : Env0 P w K mg (hidT t.heap H) callerA [] t H := by
    refine ⟨rfl, ⟨inKH, nsH hmg, ⟨mb, nsH hmb, hbb⟩, mc, nsH l1, l2⟩, fun b o z => of_hidT z, Nat.le_of_eq (hidT_size _ _), trivial, fun b hb => ?_, hok, .of_eq hgen⟩
    cases hb
  apply codeAny_mono ((F _ inKH (nsH hmg)).runG callerA [] t H ⟨[.ref a], []⟩ [.ref a] [.ref a] _ _ room rfl e0 (hbind t (.ref a)) (.cons rfl .nil) (hsp H hS))
  intro r t' hr
  rcases r with e | fl
  · exact (show False from hr).elim
  cases fl with
  | ret u =>
    obtain ⟨v, H', os, bare, un, hok', ru, q⟩ := hr
    have q : v = .bl true := q
    subst q
    cases (show u = Value.bool true from ru)
    refine ⟨rfl, OldK.of_keep fun b o z => ?_, os, bare⟩
    cases q : H b with
    | none => exact un.keep b o z q (fun m => nomatch (show b ∈ ([] : List Addr) from m)) (by simp)
    | some u =>
      obtain ⟨rfl, rfl, _⟩ := hH b u q
      have z2 := (hok' b _ (un.frzs b _ _ q)).1
      rw [hobj] at z
      cases z
      exact z2
  | _ => exact (show False from hr).elim

/-- the goal that k_head leaves (case hc) -/
theorem walk {l : PySem.W.OpenLaw} {n k : Nat} {q : Program} {loose : List Str} {XP : (Str → Option Value) → Heap → Prop} {YP : World → Heap → Prop} {d : DefRec} {K : Params → PySem.W.Frag} {sp : World → Sp} {x : Str}
    (hn : l.most = some n) (hn2 : n ≤ sizeLine) (hdf : d.params.defaults = []) (room : Room k callerA) (hY : ∀ (w : World) (h : Heap), YP w h → (K w.params).In h)
    (F : ∀ (w : World) (mg : Str → Option Value) (fa : Addr) (h : Heap), (K w.params).In h → h.Ns mainGlobals mg → mg d.name = some (.ref fa) →
      ∃ fd : FuncData, (∀ (s : Shared) (u : Value), BindsTo s fd ⟨[u], []⟩ [(x, u)]) ∧ ∀ base : Heap, (K w.params).In base → base.Ns mainGlobals mg → FnG l.prog w (K w.params) mg base CX0 k fa fd [x] (sp w))
    (hsp : ∀ (w : World) (H : Hp) (a : Addr) (ns : List Int), ns.length ≤ n → SqL (K w.params) H a (ns.map V.int) → sp w [.ref a] H (fun v _ => v = .bl true) fun _ _ _ => False) :
    PySem.W.WalkO q loose XP YP l.row.toRowW d [] (fun f vs => PySem.call f vs) := by
  apply Att.attach_call hn hdf
  intro w s₀ s₁ mg mb fa o pm cd doc a vs ns G Y _ _ _ hfa hobj hints hlen hg
  have inK := hY w _ Y
  obtain ⟨fd, hb, hF⟩ := F w mg fa _ inK G.T.g hfa
  exact law_run inK G.T.g G.T.b G.T.builtins G.T.nolimit hg hobj hints (Nat.le_trans hlen hn2) room hF hb fun H hS => hsp w H a ns hlen hS
end Gd

set_option Elab.async false
set_option linter.all false
set_option maxRecDepth 100000
set_option maxHeartbeats 4000000
/-! Rl: three rules that the layer lacks: ** of great ints, t[::-1] of a tuple, set(..) of a list or tuple of ints. -/
namespace Gd
open PySem PySem.Spec PyProof.Rows L2
/-! ### powers -/
def CPowG (i j : Int) : Prop := 0 ≤ j ∧ (Builtin.Int.intBits i : Int) * j ≤ 2 ^ 27
theorem op_powG {X : Cx} : OpR X (binaryOp .Pow) (rI CPowG fun i j => .int (i ^ j.toNat)) := opI fun _ _ _ _ _ _ _ c q => pow_int c.1 c.2 q
/-! ### t[::-1] -/
theorem fm_same {α β : Type} {f g : α → Option β} : ∀ l : List α, (∀ x ∈ l, f x = g x) → l.filterMap f = l.filterMap g
  | [], _ => rfl
  | x :: l, h => by
    have h1 := h x List.mem_cons_self
    have h2 := fm_same l fun y hy => h y (List.mem_cons_of_mem _ hy)
    rw [List.filterMap_cons, List.filterMap_cons, h1, h2]
theorem back_all (its : Array Value) : (List.range its.size).filterMap (fun (k : Nat) => its[(((its.size : Int) - 1) + (k : Int) * (-1)).toNat]?) = its.toList.reverse := by
  have h1 : (List.range its.size).map (fun k => its.size - 1 - k) = (List.range its.size).reverse := PySem.W.krv_range its.size
  have h2 : its.toList.reverse = ((List.range its.size).map fun k => its.size - 1 - k).filterMap (its[·]?) := by
    rw [h1, List.filterMap_reverse, PySem.W.krv_all]
  rw [h2, List.filterMap_map]
  apply fm_same
  intro k hk
  have hk : k < its.size := List.mem_range.mp hk
  show its[_]? = its[_]?
  congr 1
  show ((its.size : Int) - 1 + (k : Int) * (-1)).toNat = its.size - 1 - k
  omega
section
variable {prog : Program} {w : World} {A : Around} {E : Value → Shared → Prop} {s : Shared}
theorem back_applied {sl : Addr} {vs : Value} {n : Nat} {Q : Int × Int × Nat → Shared → Prop} (hs : s.heap.IsSliceOf sl .none .none vs) (ps : IsPart vs (some (-1)))
    (h : Q ((n : Int) - 1, -1, n) s) : wpAny (model prog w) A (Builtin.Slice.sliceApplied (.ref sl) (pure (n : Int))) Q E s := by
  have ⟨ob, ho, _, hd⟩ := hs
  unfold Builtin.Slice.sliceApplied Builtin.Slice.sliceFields
  apply wpAny_bind
  refine wpAny_bind (wpAny_field ho hd (x := Value.none) rfl ?_)
  refine wpAny_bind (wpAny_field ho hd (x := Value.none) rfl ?_)
  refine wpAny_bind (wpAny_field ho hd (x := vs) rfl (wpAny_pure ?_))
  refine wpAny_bind (HT.slicePart_ ps ?_)
  show wpAny _ _ (if ((-1 : Int) == 0) = true then _ else _) _ _ s
  rw [if_neg (by decide)]
  refine wpAny_bind (slicePart_none (wpAny_bind (slicePart_none (wpAny_bind (wpAny_pure ?_)))))
  have e1 : Builtin.Slice.sliceAdjust none none (-1) (n : Int) = ((n : Int) - 1, -1) := by
    unfold Builtin.Slice.sliceAdjust
    simp
  have e2 : Builtin.Slice.slicePlaces ((n : Int) - 1) (-1) (-1) = n := by
    unfold Builtin.Slice.slicePlaces
    simp
    try omega
  show wpAny _ _ (match Builtin.Slice.sliceAdjust none none (-1) (n : Int) with | (lo, hi) => pure (lo, (-1 : Int), Builtin.Slice.slicePlaces lo hi (-1))) _ _ s
  rw [e1]
  show wpAny _ _ (pure ((n : Int) - 1, (-1 : Int), Builtin.Slice.slicePlaces ((n : Int) - 1) (-1) (-1))) _ _ s
  rw [e2]
  exact wpAny_pure h
theorem back_item {t sl : Addr} {its : Array Value} {vs : Value} {Q : Value → Shared → Prop} (ht : IsTup s.heap t its) (hs : s.heap.IsSliceOf sl .none .none vs) (ps : IsPart vs (some (-1))) (hz : its.size ≤ sizeLine)
    (h : Q (.ref s.heap.objs.size) { s with heap := s.heap.push { cls := .type "tuple", data := .seq its.toList.reverse.toArray } }) : wpAny (model prog w) A (getItem (.ref t) (.ref sl)) Q E s := by
  have ⟨ob, ho, hc, _⟩ := hs
  have few : sizeOk (.seq its.toList.reverse.toArray) := by
    show its.toList.reverse.toArray.size ≤ sizeLine
    simpa using hz
  unfold getItem
  try with_reducible refine wpAny_holding ?_
  first | refine wpAny_bind (wpAny_pure ?_) | skip
  refine wpAny_bind (wpAny_sequenceKey ht.typeIs (by decide) (wpAny_bind (wpAny_callSpecial?_slot (name := Str.ofString "__getitem__") ht.typeIs PyProof.Rows.slot_tuple_getitem
    (wpAny_call_entry PyProof.Rows.slot_tuple_getitem ht.typeIs entry_tuple_getitem ?_ (args_tuple_getitem _ _)))))
  show wpAny _ _ (Builtin.Tuple.tupleItemsOf (.ref t) >>= _) _ _ s
  refine wpAny_bind (tupleItemsOf_ ht (wpAny_bind (wpAny_typeOf (show s.TypeIs (.ref sl) "slice" from ⟨ob, ho, hc⟩) ?_)))
  rw [if_pos (by decide)]
  refine wpAny_bind (back_applied hs ps ?_)
  show wpAny _ _ (if ((its.size : Int) - 1 == 0 && (-1 : Int) == 1 && its.size == its.size) = true then _ else _) _ _ s
  rw [if_neg (by simp), back_all]
  first
    | exact wpAny_bind (m := Builtin.Tuple.tupleExact _) (wpAny_newObj_type (wpAny_pure ⟨_, rfl, wpAny_pure h⟩) few)
    | exact wpAny_bind (wpAny_bind (m := Builtin.Tuple.tupleExact _) (wpAny_newObj_type (wpAny_pure (wpAny_pure ⟨_, rfl, wpAny_pure h⟩)) few))
    | exact wpAny_bind (wpAny_bind (m := Builtin.Tuple.tupleExact _) (wpAny_newObj_type (wpAny_pure ⟨_, rfl, wpAny_pure h⟩) few))
    | exact wpAny_bind (m := Builtin.Tuple.tupleExact _) (wpAny_newObj_type (wpAny_bind (wpAny_pure (wpAny_pure ⟨_, rfl, wpAny_pure h⟩))) few)
end
def tBack (K : PySem.W.Frag) (te : TE) : TE := fun σ H Q => te σ H fun x G => ∃ a xs, x = .ref a ∧ SqT K G a xs ∧ ∀ p, G p = none → Q (.ref p) (upd G p (.tup xs.reverse))
theorem pe_back {X : Cx} {e : Expr} {te : TE} {k : Nat} {p1 p2 p3 pos : Pos} (he : PE X e te) : PE X (.Subscript e (.Slice none none (some (.UnaryOp .USub (.Constant (.int 1) k p1) p2)) p3) pos) (tBack X.K te) := by
  constructor
  intro pins s σ H Q I h
  refine Subscript_ (thn (he.run pins s σ H _ I h) ?_)
  rintro v s1 ⟨x, G, J, rx, a, xs, rfl, hx, q⟩
  cases (show v = Value.ref a from rx)
  have st : PO X (some (.UnaryOp .USub (.Constant (.int 1) k p1) p2)) (tPart (tUn (rU fun i => .int (-i)) (tC (.int 1)))) := po_some (pe_un un_neg pe_int)
  have no := po_none (X := X)
  apply wpAny_Slice
  refine thn (no.run pins s1 σ G (fun o F => o = none ∧ F = G) J ⟨rfl, rfl⟩) ?_
  rintro vl s2 ⟨_, _, J2, pl, rfl, rfl⟩
  refine thn (no.run pins s2 σ _ (fun o F => o = none ∧ F = _) J2 ⟨rfl, rfl⟩) ?_
  rintro vu s3 ⟨_, _, J3, pu, rfl, rfl⟩
  refine thn (st.run pins s3 σ _ (fun o F => o = some (-1) ∧ F = _) J3 ⟨1, rfl, -1, rfl, rfl, rfl⟩) ?_
  rintro vs s4 ⟨_, _, J4, ps, rfl, rfl⟩
  cases pl
  cases pu
  have J5 : Inv X pins σ _ { s4 with heap := s4.heap.push { cls := .type "slice", data := .fields #[Value.none, Value.none, vs] } } := J4.kept (t' := s4.toks) fun b ob z => Heap.get?_push_of_some _ z
  obtain ⟨its, r, ht, hz⟩ := J5.tuple hx
  have few : its.toArray.size ≤ sizeLine := by
    rw [List.size_toArray, ← r.length]
    exact hz
  refine tail_any (ops := [.ref a, .ref s4.heap.objs.size]) ht.typeIs PyProof.Rows.slot_tuple_getitem.lookup (back_item ht (Heap.IsSliceOf.new _ _ _ vs) ps few ?_) (by with_unfolding_all rfl)
  refine ⟨.ref _, _, J5.laid (t' := s4.toks) (o := .tup xs.reverse) (fun b ob z => Heap.get?_push_of_some _ z) (Nat.le_refl _) ?_, rfl, q _ (J5.hok.fresh (Nat.le_refl _))⟩
  refine ⟨by rw [List.length_reverse]; exact hz, _, r.reverse, ?_⟩
  exact IsTup.new _ _
end Gd

set_option Elab.async false
set_option linter.all false
set_option maxRecDepth 100000
set_option maxHeartbeats 4000000
namespace Gd
open PySem PySem.Spec PyProof.Rows L2
section
variable {P : Program} {w : World} {A : Around} {E : Value → Shared → Prop} {s : Shared}
abbrev freshSet (w : World) : Obj := { cls := .type "set", dict := none, data := .set #[] 0 (.fresh 0 0 (!w.params.followText "set-order")) }
/-- the set of a list of ints: what stands behind set(l) -/
def SetMade (w : World) (s : Shared) (ns : List Int) (r : Value) (s2 : Shared) : Prop :=
  r = .none ∧ ∃ h' tk c, s2 = { s with heap := h', toks := tk } ∧ SetR w h' s.heap.objs.size (fun j => decide (j ∈ ns)) c ∧ c ≤ ns.length ∧ ∀ b o, s.heap.get? b = some o → h'.get? b = some o
theorem set_of_list {l : Addr} {its : Array Value} (ns : List Int) {Q : Value → Shared → Prop} (calm : A.handled = none) (hl : s.heap.IsList l its) (hi : IntsAre its.toList ns) (few : ns.length + 1 < scanBound)
    (h : ∀ (h' : Heap) (tk c : Nat), SetR w h' s.heap.objs.size (fun j => decide (j ∈ ns)) c → c ≤ ns.length → (∀ b o, s.heap.get? b = some o → h'.get? b = some o) → Q (.ref s.heap.objs.size) { s with heap := h', toks := tk }) :
    wpAny (model P w) A (call (.type "set") [.ref l]) Q E s := by
  have many : its.size = ns.length := by
    rw [← hi.length, Array.length_toList]
  have ⟨c, tl, hmro⟩ := F.called_set.mro
  have f1 := F.called_set.made
  have f2 := F.called_set.sub
  apply wpAny_call
  apply codeAny_of_tree
  show wpAny _ _ (callAny (.type "set") _) _ _ _
  refine wpAny_pure ⟨Code.quiet_builtin _ (by decide +kernel), codeAny_builtin F.entry_type_call ?_⟩
  rw [Around.under_plain (weight_type_call_type "set" [.ref l] []) rfl]
  have f3 := F.called_set.notType
  have f4 := F.called_set.canCreate
  have f5 := F.typeCall_set_1 (.ref l)
  repeat (any_goals (first | assumption | wp_step))
  refine codeAny_mono (code_set_led1 (.ref l) (E := E) (Q₁ := fun r t => r = .ref s.heap.objs.size ∧ t = { s with heap := s.heap.push (freshSet w) }) ⟨rfl, rfl⟩) ?_
  intro r s1 hr
  rcases r with e | fl
  · exact hr
  cases fl with
  | next => exact hr.elim
  | brk => exact hr.elim
  | cont => exact hr.elim
  | ret obj =>
    obtain ⟨rfl, rfl⟩ := hr
    have new : (s.heap.push (freshSet w)).get? s.heap.objs.size = some (freshSet w) := Heap.get?_push_size _ rfl
    have isS : Shared.TypeIs { s with heap := s.heap.push (freshSet w) } (.ref s.heap.objs.size) "set" := ⟨_, new, rfl⟩
    have f6 := F.called_set.init.lookup
    have f7 := F.called_set.init.bind (.ref s.heap.objs.size)
    repeat (any_goals (first | assumption | wp_step))
    refine codeAny_mono (codeAny_call_builtin (R := wants (SetMade w s ns) E) F.called_set.init.plain F.entry_set_init (check_set_init_1 isS ?_)) ?_
    · have lLt : l < s.heap.objs.size := hl.elim fun o ho => Heap.lt_size ho.1
      have hl1 : (s.heap.push (freshSet w)).IsList l its := hl.push _
      obtain ⟨⟨oc, od, dat, osl⟩, ho, hc, nl, hd⟩ := id hl1
      simp only at hc hd
      subst hc hd
      have g1 := F.sub_list_set
      have g2 := F.sub_list_frozenset
      have g3 : (Value.type "list" == Value.type "dict") = false := by decide
      unfold Builtin.«set.__init__» noKeywords Builtin.Frozenset.updateFrom
      generalize hIt : pyIter = It
      wp_walk
      subst hIt
      refine wpAny_pyIter_list hl1 (wpAny_bind (wpAny_runValue ?_))
      have sz1 : (s.heap.push (freshSet w)).objs.size = s.heap.objs.size + 1 := Heap.size_push ..
      have calm3 : A.in1.in1.in1.handled = none := by simp [calm]
      have apart : l ≠ (s.heap.push (freshSet w)).objs.size := by
        rw [sz1]
        exact Nat.ne_of_lt (Nat.lt_succ_of_lt lLt)
      have outside : s.heap.objs.size ∉ [(s.heap.push (freshSet w)).objs.size, l] := by
        rw [sz1]
        simp only [List.mem_cons, List.not_mem_nil, or_false, not_or]
        exact ⟨Nat.ne_of_lt (Nat.lt_succ_self _), Nat.ne_of_gt lLt⟩
      have vals : ∀ (i : Nat) (v : Value), its[i]? = some v → ∃ k t, ns[i]? = some k ∧ v = .int k t := by
        intro i v hv
        have lt : i < ns.length := by
          rw [← many]
          exact (Array.getElem?_eq_some_iff.mp hv).1
        obtain ⟨t, e⟩ := PyProof.Rows.IntsAre.int_at hi i v (by rw [Array.getElem?_toList]; exact hv)
        exact ⟨ns[i], t, List.getElem?_eq_getElem lt, by rw [e, List.getD_eq_getElem?_getD, List.getElem?_eq_getElem lt] <;> rfl⟩
      refine set_update_ints (Walks.list calm3 _ l apart its).toS s.heap.objs.size outside ns many few vals (its.size - 0) 0 _ (by omega) (Nat.zero_le _) ⟨⟨_, Heap.get?_push_size _ rfl, rfl, rfl⟩, hl1.push _⟩ ?_ ?_
      · exact ⟨0, Nat.le_refl 0, setR_new_at (Heap.get?_push_of_some _ new)⟩
      · intro s' c' mv hc' hS'
        obtain ⟨h', gs, dr, tk, os⟩ := s'
        obtain rfl : gs = s.gens := mv.gens
        obtain rfl : dr = s.drawn := mv.drawn
        obtain rfl : os = s.os := mv.os
        refine wpAny_pure (wpAny_pure ?_)
        refine ⟨rfl, h', tk, c', rfl, hS', by omega, fun b o z => ?_⟩
        have lt := Heap.lt_size z
        refine mv.heap b o ?_ (Heap.get?_push_of_some _ (Heap.get?_push_of_some _ z))
        rw [sz1]
        simp only [List.mem_cons, List.not_mem_nil, or_false, not_or]
        exact ⟨Nat.ne_of_lt lt, Nat.ne_of_lt (Nat.lt_succ_of_lt lt)⟩
    · intro r2 s2 hr2
      rcases r2 with e | fl
      · exact hr2
      cases fl with
      | next => exact hr2.elim
      | brk => exact hr2.elim
      | cont => exact hr2.elim
      | ret r =>
        obtain ⟨rfl, h', tk, c', rfl, hS', hc', hk⟩ := hr2
        repeat (any_goals (first | assumption | wp_step))
        exact h _ _ _ hS' hc' hk
end
/-- set(xs), xs a list or a tuple of ints -/
def rSetI (K : PySem.W.Frag) (w : World) : List V → Hp → VK → Prop := fun vs H Q => ∃ (a : Addr) (ns : List Int), vs = [.ref a] ∧ (SqL K H a (ns.map V.int) ∨ SqT K H a (ns.map V.int)) ∧ ns.length ≤ 1000 ∧
  ∀ (p : Addr) (n : Nat), n ≤ ns.length → H p = none → Q (.ref p) (upd H p (SetO w p (fun j => decide (j ∈ ns)) n))
theorem call_setI {X : Cx} (hc : X.calm = true) : CallR X (.type "set") (rSetI X.K X.w) := by
  intro pins s σ H vs us Q I r h
  obtain ⟨a, ns, rfl, hx, few, q⟩ := h
  obtain ⟨u, rfl, ru⟩ := vals1 r
  cases (show u = Value.ref a from ru)
  have calm := I.ok.hd hc
  have fin : ∀ (h' : Heap) (tk c : Nat), SetR X.w h' s.heap.objs.size (fun j => decide (j ∈ ns)) c → c ≤ ns.length → (∀ b o, s.heap.get? b = some o → h'.get? b = some o) → EP X pins σ Q (.ref s.heap.objs.size) { s with heap := h', toks := tk } := by
    intro h' tk c R hc' hk
    exact ⟨.ref _, _, I.laid (t' := tk) hk (Nat.le_refl _) (setO_new R), rfl, q _ c hc' (I.hok.fresh (Nat.le_refl _))⟩
  rcases hx with hx | hx
  · obtain ⟨its, rv, pt, _⟩ := I.list hx
    exact set_of_list ns calm pt.isList (ints_of_vals rv) (by unfold scanBound; omega) fin
  · obtain ⟨its, rv, pt, _⟩ := I.tuple hx
    exact call_set_tupI ns calm (show s.heap.IsTuple a its.toArray from pt) (ints_of_vals rv) (by unfold scanBound; omega) fin
end Gd

set_option Elab.async false
set_option linter.all false
set_option maxRecDepth 100000
set_option maxHeartbeats 4000000
/-! Lc: readings of comprehensions: what stays, what is gathered; lists compared with the empty one. -/
namespace Gd
open PySem PySem.Spec PyProof.Rows L2
theorem _root_.L2.Same.upG {H G : Hp} {p : Addr} {o : HO} (s : Same H G) (n : H p = none) : Same H (upd G p o) := fun b x e => by
  rw [upd_ne (ne_of_none e n)]
  exact s b x e
theorem _root_.L2.Same.newG {H : Hp} {p : Addr} {o : HO} (n : H p = none) : Same H (upd H p o) := (Same.refl H).upG n
theorem _root_.L2.Same.tupS {K : PySem.W.Frag} {H G : Hp} {a : Addr} {xs : List V} (s : Same H G) (h : SqT K H a xs) : SqT K G a xs := by
  rcases h with (h | ⟨o, h⟩) | h
  · exact .inl (.inl (s _ _ h))
  · exact .inl (.inr ⟨o, s _ _ h⟩)
  · exact .inr h
/-- between two turns: Ok of the heap, the list at D, what it has gathered -/
def Nx (Ok : Hp → Prop) (D : Addr) (Acc : Nat → List V → Prop) (i : Nat) : Hp → Prop := fun H => ∃ acc, Ok H ∧ H D = some (.lst acc) ∧ Acc i acc
theorem nx_put {Ok : Hp → Prop} {D : Addr} {Acc : Nat → List V → Prop} {i : Nat} {H : Hp} {acc : List V} {y : V} (hup : ∀ H o, Ok H → Ok (upd H D o)) (ok : Ok H) (e : H D = some (.lst acc)) (few : acc.length ≤ 1000) (a : Acc (i + 1) (acc ++ [y])) :
    ∃ acc, H D = some (.lst acc) ∧ acc.length < sizeLine ∧ Nx Ok D Acc (i + 1) (upd H D (.lst (acc ++ [y]))) :=
  ⟨acc, e, small1000 few, acc ++ [y], hup H _ ok, upd_same, a⟩
theorem lc_any {J : It} {n : Nat} {g : TG} {tt : TT} {te : TE} {vs : List Nat} {σ : L2.St} {H1 : Hp} {D : Addr} {Qd : Hp → Prop} (Ok : Hp → Prop) (Acc : Nat → List V → Prop) (Item : Nat → V → Hp → Prop) (h0 : Ok (upd H1 D (.lst []))) (z0 : Acc 0 [])
    (hgo : ∀ i H, i < n → Nx Ok D Acc i H → J.go i H) (hst : ∀ H, Nx Ok D Acc n H → J.stop n H) (hy : ∀ i H v H', i < n → Nx Ok D Acc i H → J.yld i H v H' → Nx Ok D Acc i H' ∧ Item i v H')
    (hs : ∀ i v H, i < n → Nx Ok D Acc i H → Item i v H → g v (wipe σ vs) H fun σ2 H2 => wipe σ2 vs = wipe σ vs ∧ tt σ2 H2 fun b H3 =>
      if b = true then te σ2 H3 fun y H4 => ∃ acc, H4 D = some (.lst acc) ∧ acc.length < sizeLine ∧ Nx Ok D Acc (i + 1) (upd H4 D (.lst (acc ++ [y]))) else Nx Ok D Acc (i + 1) H3)
    (hd : ∀ H acc, Ok H → H D = some (.lst acc) → Acc n acc → Qd H) :
    ∃ W : Nat → Nat → Hp → Prop, (∃ m, W 0 m (upd H1 D (.lst []))) ∧ ∀ i m H, W i m H →
      (J.stop i H ∧ Qd H) ∨ (J.go i H ∧ ∃ N : Hp → Prop, (∀ H', N H' → ∃ m', m' < m ∧ W (i + 1) m' H') ∧ ∀ x H', J.yld i H x H' → g x (wipe σ vs) H' fun σ2 H2 => wipe σ2 vs = wipe σ vs ∧ tt σ2 H2 fun b H3 =>
        if b = true then te σ2 H3 fun y H4 => ∃ acc, H4 D = some (.lst acc) ∧ acc.length < sizeLine ∧ N (upd H4 D (.lst (acc ++ [y]))) else N H3) := by
  refine ⟨fun i m H => i + m = n ∧ Nx Ok D Acc i H, ⟨n, by omega, [], h0, upd_same, z0⟩, ?_⟩
  rintro i m H ⟨e, nx⟩
  by_cases hi : i < n
  · refine .inr ⟨hgo i H hi nx, Nx Ok D Acc (i + 1), fun H' z => ⟨m - 1, by omega, by omega, z⟩, fun v H' y => ?_⟩
    obtain ⟨z1, z2⟩ := hy i H v H' hi nx y
    exact hs i v H' hi z1 z2
  · obtain rfl : i = n := by omega
    obtain ⟨acc, a, b, c⟩ := nx
    exact .inl ⟨hst H ⟨acc, a, b, c⟩, hd H acc a b c⟩
section
variable {K : PySem.W.Frag} {a : Addr} {xs : List V} {g : TG} {tt : TT} {te : TE} {vs : List Nat} {σ : L2.St} {H1 : Hp} {D : Addr} {Qd : Hp → Prop}
/-- over a tuple that stays -/
theorem lc_tupG (Ok : Hp → Prop) (Acc : Nat → List V → Prop) (hS : ∀ H, Ok H → SqT K H a xs) (h0 : Ok (upd H1 D (.lst []))) (z0 : Acc 0 [])
    (hs : ∀ i v H, i < xs.length → Nx Ok D Acc i H → xs[i]? = some v → g v (wipe σ vs) H fun σ2 H2 => wipe σ2 vs = wipe σ vs ∧ tt σ2 H2 fun b H3 =>
      if b = true then te σ2 H3 fun y H4 => ∃ acc, H4 D = some (.lst acc) ∧ acc.length < sizeLine ∧ Nx Ok D Acc (i + 1) (upd H4 D (.lst (acc ++ [y]))) else Nx Ok D Acc (i + 1) H3)
    (hd : ∀ H acc, Ok H → H D = some (.lst acc) → Acc xs.length acc → Qd H) :
    ∃ W : Nat → Nat → Hp → Prop, (∃ m, W 0 m (upd H1 D (.lst []))) ∧ ∀ i m H, W i m H →
      ((Itt K a).stop i H ∧ Qd H) ∨ ((Itt K a).go i H ∧ ∃ N : Hp → Prop, (∀ H', N H' → ∃ m', m' < m ∧ W (i + 1) m' H') ∧ ∀ x H', (Itt K a).yld i H x H' → g x (wipe σ vs) H' fun σ2 H2 => wipe σ2 vs = wipe σ vs ∧ tt σ2 H2 fun b H3 =>
        if b = true then te σ2 H3 fun y H4 => ∃ acc, H4 D = some (.lst acc) ∧ acc.length < sizeLine ∧ N (upd H4 D (.lst (acc ++ [y]))) else N H3) :=
  lc_any (J := Itt K a) (n := xs.length) Ok Acc (fun i v _ => xs[i]? = some v) h0 z0 (fun i H hi ⟨acc, o, _⟩ => ⟨xs, xs[i], hS H o, List.getElem?_eq_getElem hi⟩)
    (fun H ⟨acc, o, _⟩ => ⟨xs, hS H o, Nat.le_refl _⟩) (fun i H v H' hi nx ⟨e, f⟩ => by
      subst e
      obtain ⟨acc, o, r⟩ := nx
      exact ⟨⟨acc, o, r⟩, f xs (hS _ o)⟩) hs hd
/-- over the signs of a text -/
theorem lc_strG {x : Str} (Ok : Hp → Prop) (Acc : Nat → List V → Prop) (h0 : Ok (upd H1 D (.lst []))) (z0 : Acc 0 [])
    (hs : ∀ i c H, x.cps[i]? = some c → Nx Ok D Acc i H → g (.str ⟨#[c]⟩) (wipe σ vs) H fun σ2 H2 => wipe σ2 vs = wipe σ vs ∧ tt σ2 H2 fun b H3 =>
      if b = true then te σ2 H3 fun y H4 => ∃ acc, H4 D = some (.lst acc) ∧ acc.length < sizeLine ∧ Nx Ok D Acc (i + 1) (upd H4 D (.lst (acc ++ [y]))) else Nx Ok D Acc (i + 1) H3)
    (hd : ∀ H acc, Ok H → H D = some (.lst acc) → Acc x.cps.size acc → Qd H) :
    ∃ W : Nat → Nat → Hp → Prop, (∃ m, W 0 m (upd H1 D (.lst []))) ∧ ∀ i m H, W i m H →
      ((Its x).stop i H ∧ Qd H) ∨ ((Its x).go i H ∧ ∃ N : Hp → Prop, (∀ H', N H' → ∃ m', m' < m ∧ W (i + 1) m' H') ∧ ∀ v H', (Its x).yld i H v H' → g v (wipe σ vs) H' fun σ2 H2 => wipe σ2 vs = wipe σ vs ∧ tt σ2 H2 fun b H3 =>
        if b = true then te σ2 H3 fun y H4 => ∃ acc, H4 D = some (.lst acc) ∧ acc.length < sizeLine ∧ N (upd H4 D (.lst (acc ++ [y]))) else N H3) :=
  lc_any (J := Its x) (n := x.cps.size) Ok Acc (fun i v _ => ∃ c, x.cps[i]? = some c ∧ v = .str ⟨#[c]⟩) h0 z0 (fun i H hi _ => hi) (fun H _ => Nat.le_refl _)
    (fun i H v H' hi nx ⟨e, f⟩ => by
      subst e
      exact ⟨nx, f⟩)
    (fun i v H hi nx ⟨c, hc, e⟩ => by
      subst e
      exact hs i c H hc nx) hd
/-- over pairs of two tuples that stay -/
theorem lc_zipG {b : Addr} {ys : List V} {n : Nat} (hx : n ≤ xs.length) (hy : n ≤ ys.length) (hn : xs.length ≤ n ∨ ys.length ≤ n) (Ok : Hp → Prop) (Acc : Nat → List V → Prop) (hS : ∀ H, Ok H → SqT K H a xs ∧ SqT K H b ys)
    (hup : ∀ H T o, T ≠ D → H T = none → Ok H → Ok (upd H T o)) (h0 : Ok (upd H1 D (.lst []))) (z0 : Acc 0 [])
    (hs : ∀ i x y T H, xs[i]? = some x → ys[i]? = some y → Nx Ok D Acc i H → H T = some (.tup [x, y]) → g (.ref T) (wipe σ vs) H fun σ2 H2 => wipe σ2 vs = wipe σ vs ∧ tt σ2 H2 fun b H3 =>
      if b = true then te σ2 H3 fun y H4 => ∃ acc, H4 D = some (.lst acc) ∧ acc.length < sizeLine ∧ Nx Ok D Acc (i + 1) (upd H4 D (.lst (acc ++ [y]))) else Nx Ok D Acc (i + 1) H3)
    (hd : ∀ H acc, Ok H → H D = some (.lst acc) → Acc n acc → Qd H) :
    ∃ W : Nat → Nat → Hp → Prop, (∃ m, W 0 m (upd H1 D (.lst []))) ∧ ∀ i m H, W i m H →
      ((RZ.ItzT K a b).stop i H ∧ Qd H) ∨ ((RZ.ItzT K a b).go i H ∧ ∃ N : Hp → Prop, (∀ H', N H' → ∃ m', m' < m ∧ W (i + 1) m' H') ∧ ∀ v H', (RZ.ItzT K a b).yld i H v H' → g v (wipe σ vs) H' fun σ2 H2 => wipe σ2 vs = wipe σ vs ∧ tt σ2 H2 fun b H3 =>
        if b = true then te σ2 H3 fun y H4 => ∃ acc, H4 D = some (.lst acc) ∧ acc.length < sizeLine ∧ N (upd H4 D (.lst (acc ++ [y]))) else N H3) :=
  lc_any (J := RZ.ItzT K a b) (n := n) Ok Acc (fun i v H => ∃ x y T, xs[i]? = some x ∧ ys[i]? = some y ∧ v = .ref T ∧ H T = some (.tup [x, y])) h0 z0
    (fun i H hi ⟨acc, o, _⟩ => ⟨xs, ys, _, _, (hS H o).1, (hS H o).2, List.getElem?_eq_getElem (by omega), List.getElem?_eq_getElem (by omega)⟩)
    (fun H ⟨acc, o, _⟩ => ⟨xs, ys, (hS H o).1, (hS H o).2, hn⟩)
    (fun i H v H' hi nx ⟨T, x, y, e1, nT, e2, f1, f2⟩ => by
      subst e1 e2
      obtain ⟨acc, o, e, r⟩ := nx
      have ne : D ≠ T := ne_of_none e nT
      exact ⟨⟨acc, hup H T _ ne.symm nT o, by rw [upd_ne ne]; exact e, r⟩, x, y, T, f1 xs (hS H o).1, f2 ys (hS H o).2, rfl, upd_same⟩)
    (fun i v H hi nx ⟨x, y, T, hx, hy, e, hT⟩ => by
      subst e
      exact hs i x y T H hx hy nx hT) hd
end
theorem tyes {X Y : Hp → Prop} {σ : L2.St} {H : Hp} (h : X H) : tYes σ H (fun b G => if b = true then X G else Y G) := by
  show (if true = true then X H else Y H)
  rw [if_pos rfl]
  exact h
/-! ### t[i:j], t + u: some tuple -/
def rSlU (K : PySem.W.Frag) : V → Option Int → Option Int → Hp → VK → Prop := fun x lo hi H Q => ∃ a xs, x = .ref a ∧ SqT K H a xs ∧ ∀ b G, Same H G → SqT K G b (cutV xs lo hi) → Q (.ref b) G
theorem sl_tupU {X : Cx} : SlR X (rSlU X.K) := by
  intro pins s σ H x v vl vu lo hi sl Q I rx hs pl pu h
  obtain ⟨a, xs, rfl, hx, q⟩ := h
  refine sl_tupA pins s σ H _ v vl vu lo hi sl Q I rx hs pl pu ⟨a, xs, rfl, hx, fun e => q a H (Same.refl H) ?_, fun _ p np => q p _ (Same.newG np) (.inl (.inl upd_same))⟩
  have z : cutV xs lo hi = xs := by
    unfold cutV
    rw [e.1, e.2, List.drop_zero, Nat.sub_zero, List.take_length]
  rw [z]
  exact hx
def rCatU (K : PySem.W.Frag) : R2 := fun x y H Q => ∃ a b xs ys, x = .ref a ∧ y = .ref b ∧ SqT K H a xs ∧ SqT K H b ys ∧ xs.length + ys.length ≤ sizeLine ∧ ∀ c G, Same H G → SqT K G c (xs ++ ys) → Q (.ref c) G
theorem op_catU {X : Cx} : OpR X (binaryOp .Add) (rCatU X.K) := by
  intro pins s σ H x y v u Q I rx ry h
  obtain ⟨a, b, xs, ys, rfl, rfl, hx, hy, few, q⟩ := h
  refine op_catA pins s σ H _ _ v u Q I rx ry ⟨a, b, xs, ys, rfl, rfl, hx, hy, few, fun e => q b H (Same.refl H) ?_, fun _ e => q a H (Same.refl H) ?_, fun _ _ p np => q p _ (Same.newG np) (.inl (.inl upd_same))⟩
  · rw [e]
    exact hy
  · rw [e, List.append_nil]
    exact hx
def rSlV : V → Option Int → Option Int → Hp → VK → Prop := fun x lo hi H Q => ∃ a xs, x = .ref a ∧ H a = some (.tup xs) ∧ ∀ b G, Same H G → G b = some (.tup (cutV xs lo hi)) → Q (.ref b) G
theorem sl_tupV {X : Cx} : SlR X rSlV := by
  intro pins s σ H x v vl vu lo hi sl Q I rx hs pl pu h
  obtain ⟨a, xs, rfl, hx, q⟩ := h
  refine sl_tupA pins s σ H _ v vl vu lo hi sl Q I rx hs pl pu ⟨a, xs, rfl, .inl (.inl hx), fun e => q a H (Same.refl H) ?_, fun _ p np => q p _ (Same.newG np) upd_same⟩
  have z : cutV xs lo hi = xs := by
    unfold cutV
    rw [e.1, e.2, List.drop_zero, Nat.sub_zero, List.take_length]
  rw [z]
  exact hx
def rCatV : R2 := fun x y H Q => ∃ a b xs ys, x = .ref a ∧ y = .ref b ∧ H a = some (.tup xs) ∧ H b = some (.tup ys) ∧ xs.length + ys.length ≤ sizeLine ∧ ∀ c G, Same H G → G c = some (.tup (xs ++ ys)) → Q (.ref c) G
theorem op_catV {X : Cx} : OpR X (binaryOp .Add) rCatV := by
  intro pins s σ H x y v u Q I rx ry h
  obtain ⟨a, b, xs, ys, rfl, rfl, hx, hy, few, q⟩ := h
  refine op_catA pins s σ H _ _ v u Q I rx ry ⟨a, b, xs, ys, rfl, rfl, .inl (.inl hx), .inl (.inl hy), few, fun e => q b H (Same.refl H) ?_, fun _ e => q a H (Same.refl H) ?_, fun _ _ p np => q p _ (Same.newG np) upd_same⟩
  · rw [e]
    exact hy
  · rw [e, List.append_nil]
    exact hx
/-! ### a list == [], != [] -/
def rNil (f : Bool → Bool) (K : PySem.W.Frag) : R2 := fun x y H Q => ∃ a b xs, x = .ref a ∧ y = .ref b ∧ SqL K H a xs ∧ SqL K H b [] ∧ Q (.bl (f xs.isEmpty)) H
theorem op_eqNil {X : Cx} (hu : X.A.units < cLine) : OpR X (compareOp .Eq) (rNil id X.K) := by
  intro pins s σ H x y v u Q I rx ry h
  obtain ⟨a, b, xs, rfl, rfl, h1, h2, q⟩ := h
  cases (show v = Value.ref a from rx)
  cases (show u = Value.ref b from ry)
  obtain ⟨its, r1, p1, _⟩ := I.list h1
  obtain ⟨its2, r2, p2, _⟩ := I.list h2
  cases r2
  cases r1 with
  | nil =>
    exact SeqAt.eq_listAt (e := fun _ => true) p1.isList p2.isList rfl hu (fun j z _ => absurd z (by simp)) ⟨.bl true, H, I, rfl, q⟩
  | cons _ _ => exact SeqAt.eq_list_lengthsAt p1.isList p2.isList (by simp) hu ⟨.bl false, H, I, rfl, q⟩
theorem op_neNil {X : Cx} (hu : X.A.units < cLine) : OpR X (compareOp .NotEq) (rNil (!·) X.K) := by
  intro pins s σ H x y v u Q I rx ry h
  obtain ⟨a, b, xs, rfl, rfl, h1, h2, q⟩ := h
  cases (show v = Value.ref a from rx)
  cases (show u = Value.ref b from ry)
  obtain ⟨its, r1, p1, _⟩ := I.list h1
  obtain ⟨its2, r2, p2, _⟩ := I.list h2
  cases r2
  cases r1 with
  | nil => exact SeqAt.RcNeAt.lists (e := fun _ => true) p1.isList p2.isList rfl hu (fun j z _ => absurd z (by simp)) _ _ _ _ ⟨.bl false, H, I, rfl, q⟩
  | cons _ _ => exact SeqAt.RcNeAt.lists_lengths p1.isList p2.isList (by simp) hu _ _ _ _ ⟨.bl true, H, I, rfl, q⟩
end Gd

set_option Elab.async false
set_option linter.all false
set_option maxRecDepth 100000
set_option maxHeartbeats 4000000
namespace Gd
open PySem PySem.Spec PyProof.Rows L2
/-- the heap once a tuple's items are gathered into a new list -/
abbrev gath (h : Heap) (its : Array Value) : Heap := (h.push { cls := .type "list", data := .seq ([] : List Value).toArray }).update h.objs.size (Obj.mapSeq (· ++ its))
theorem gath_old {h : Heap} {its : Array Value} {b : Addr} {o : Obj} (e : h.get? b = some o) : (gath h its).get? b = some o :=
  (Heap.get?_update_other _ _ (Nat.ne_of_gt (Heap.lt_size e))).trans (Heap.get?_push_of_some _ e)
theorem gath_size (h : Heap) (its : Array Value) : (gath h its).objs.size = h.objs.size + 1 := by
  rw [Heap.size_update, size_push']
theorem gather_tuple {P : Program} {w : World} {A : Around} {E : Value → Shared → Prop} {s : Shared} {t : Addr} {o : Obj} {its : Array Value} {n : Nat} {Q : List Value → Shared → Prop} (ho : s.heap.get? t = some o) (hc : o.cls = .type "tuple") (hd : o.data = .seq its n)
    (few : its.size ≤ sizeLine) (q : Q its.toList { s with heap := gath s.heap its }) : wpAny (model P w) A (collect (.ref t)) Q E s := by
  have new : (s.heap.push { cls := .type "list", data := .seq ([] : List Value).toArray }).get? s.heap.objs.size = some { cls := .type "list", data := .seq #[] 0 } := Heap.get?_push_size _ rfl
  have full := Heap.get?_update_self (Obj.mapSeq (· ++ its)) new rfl
  unfold collect
  apply wpAny_bind
  apply wpAny_runValue
  refine codeAny_builtin F.entry_proto_collect ?_
  rw [Around.under_plainId F.plain_proto_collect _]
  show wpAny _ A.in1 (newList [] >>= fun l => again (.builtin "list.__iadd__" ⟨[l, .ref t], []⟩)) _ _ s
  refine wpAny_bind (wpAny_newObj_type (wpAny_pure ⟨plainId_quiet F.plain_list_iadd _, codeAny_builtin F.entry_list_iadd ?_⟩))
  rw [Around.under_plainId F.plain_list_iadd _]
  have fin : wpAny (model P w) A (match Value.ref s.heap.objs.size with
      | Value.ref a => do
        match (← load a).data with
          | Data.seq xs _ => pure xs.toList
          | _ => unsupported "internal:collect"
      | _ => unsupported "internal:collect") Q E { s with heap := gath s.heap its } := by
    show wpAny _ A (load s.heap.objs.size >>= _) _ _ _
    refine wpAny_bind (wpAny_load full (wpAny_pure ?_))
    show Q ((#[] : Array Value) ++ its).toList _
    rw [show ((#[] : Array Value) ++ its).toList = its.toList by simp]
    exact q
  refine wpAny_mono (wpAny_extend_seq (hsz := few) (A := A) (R := fun r t' => r = .ok (.ret (.ref s.heap.objs.size)) ∧ t' = { s with heap := gath s.heap its }) (s := { s with heap := s.heap.push { cls := .type "list", data := .seq ([] : List Value).toArray } }) _ t _ 0 (.inr rfl) new (Heap.get?_push_of_some _ ho) hc hd ⟨rfl, rfl⟩) ?_ ?_
  · intro f t' hf
    cases f with
    | done r =>
      obtain ⟨e, rfl⟩ := hf
      cases e
      exact fin
    | again c =>
      refine ⟨hf.1, codeAny_mono hf.2 ?_⟩
      rintro r t2 ⟨rfl, rfl⟩
      exact fin
  · rintro e t' ⟨z, _⟩
    cases z
/-- sorted(t) of a tuple of ints -/
def rSortT (K : PySem.W.Frag) : List V → Hp → VK → Prop := fun vs H Q => ∃ (a : Addr) (ns : List Int), vs = [V.ref a] ∧ SqT K H a (ns.map V.int) ∧ ns.length < 64 ∧
  ∀ (ms : List Int) (p : Addr), ms.Perm ns → ms.Pairwise (· ≤ ·) → H p = none → Q (.ref p) (upd H p (.lst (ms.map V.int)))
theorem call_sortT {X : Cx} : CallR X (.builtin "sorted") (rSortT X.K) := by
  intro pins s σ H vs us Q I r h
  obtain ⟨a, ns, rfl, hS, few, q⟩ := h
  obtain ⟨its, rv, pt, _⟩ := I.tuple hS
  rw [Vals.ref1 r]
  have hi : IntsAre its ns := ints_of_vals rv
  obtain ⟨o, ho, hc, n, hd⟩ := id pt
  refine Calls.call_function_entry kind_sorted plain_sorted entry_sorted (args_sorted1 _) ?_
  unfold Builtin.«sorted»
  refine wpAny_bind (m := checkCount "sorted" 1 1 _) (wpAny_pure ?_)
  refine wpAny_bind (gather_tuple (A := X.A.in1) ho hc hd (by rw [List.size_toArray, hi.length, sizeLine_eq]; omega) ?_)
  generalize hg : gath s.heap its.toArray = h'
  have hk : ∀ b u, s.heap.get? b = some u → h'.get? b = some u := fun b u e => by
    rw [← hg]
    exact gath_old e
  show wpAny _ _ _ _ _ { s with heap := h' }
  have len : its.length < 64 := by rw [hi.length]; exact few
  refine wpAny_bind (wpAny_newList ?_ (by show its.length ≤ _; rw [sizeLine_eq]; omega))
  have hoL : (h'.push (seqObj "list" its.toArray 0)).get? h'.objs.size = some (seqObj "list" its.toArray 0) := Heap.get?_push_size _ rfl
  refine wpAny_bind (wpAny_holding (wpAny_call_entry slot_list_sort ⟨_, hoL, rfl⟩ entry_list_sort (list_sort_tree hoL hi len fun out ms a1 a2 a3 => ⟨_, rfl, ?_⟩) (args_list_sort _)))
  obtain ⟨c, hcc⟩ := sortedHeap_at (vs := its) (out := out) hoL
  have keep : ∀ b u, s.heap.get? b = some u → (sortedHeap (h'.push (seqObj "list" its.toArray 0)) h'.objs.size its out).get? b = some u := by
    intro b u e
    have e2 := hk b u e
    have lt := Heap.lt_size e2
    rw [sortedHeap_old (Nat.ne_of_lt lt) (by rw [size_push']; exact Nat.lt_succ_of_lt lt)]
    exact Heap.get?_push_of_some _ e2
  have hz : s.heap.objs.size ≤ h'.objs.size := by
    rw [← hg, gath_size]
    exact Nat.le_succ _
  have few2 : (ms.map V.int).length ≤ sizeLine := by rw [List.length_map, a2.length_eq]; exact small64 few
  exact wpAny_pure ⟨_, rfl, .ref _, upd H h'.objs.size (.lst (ms.map V.int)), I.laid (t' := s.toks) keep hz ⟨few2, out.toList, c, vals_of_ints a1, hcc⟩, rfl, q ms _ a2 a3 (I.hok.fresh hz)⟩
end Gd

set_option Elab.async false
set_option linter.all false
set_option maxRecDepth 100000
set_option maxHeartbeats 4000000
/-! Xa: exceptions of own classes with an own __init__ of one field, over any built-in base (KeyError among them); held as values or raised. -/
namespace Xc
open PySem PySem.Spec PySem.Calls PyProof.Rows PySem.HandSPX L2
open Builtin Builtin.ObjectAttr
/-- what is asked of the bases bm of an own class whose __new__ is B's -/
structure Bases (B : String) (bm : List Value) : Prop where
  hB : ∀ C : Addr, (Value.ref C :: bm).contains (.type B) = true
  hA : ∀ C : Addr, (Value.ref C :: bm).contains (.type "AttributeError") = false
  hN : ∀ C : Addr, (Value.ref C :: bm).contains (.type "NameError") = false
  hO : ∀ C : Addr, (Value.ref C :: bm).contains (.type "object") = true
  pass : ∀ (C : Addr) (self : Value), refuseLoop self "__setattr__" (.ref C :: bm) = pure ()
def basesB (B : String) (bm : List Value) : Bool := (Value.ref 0 :: bm).contains (.type B) && (!(Value.ref 0 :: bm).contains (.type "AttributeError") && (!(Value.ref 0 :: bm).contains (.type "NameError") && (Value.ref 0 :: bm).contains (.type "object")))
theorem con_ref {C : Addr} {bm : List Value} {T : String} : (Value.ref C :: bm).contains (.type T) = (Value.ref 0 :: bm).contains (.type T) := by
  rw [List.contains_cons, List.contains_cons]
  rfl
theorem Bases.of {B : String} {bm : List Value} (h : basesB B bm = true) (p : ∀ self : Value, refuseLoop self "__setattr__" bm = pure ()) : Bases B bm := by
  unfold basesB at h
  simp only [Bool.and_eq_true, Bool.not_eq_true'] at h
  obtain ⟨h1, h2, h3, h4⟩ := h
  exact ⟨fun C => con_ref.trans h1, fun C => con_ref.trans h2, fun C => con_ref.trans h3, fun C => con_ref.trans h4, fun C self => (refuseLoop_ref self _ C bm).trans (p self)⟩
theorem pass_ref {bm : List Value} {D : Addr} (p : ∀ self : Value, refuseLoop self "__setattr__" bm = pure ()) (self : Value) : refuseLoop self "__setattr__" (.ref D :: bm) = pure () := (refuseLoop_ref self _ D bm).trans (p self)
theorem pass_VE (self : Value) : refuseLoop self "__setattr__" [.type "ValueError", .type "Exception", .type "BaseException", .type "object"] = pure () := by kernel_rfl
theorem pass_IE (self : Value) : refuseLoop self "__setattr__" [.type "IndexError", .type "LookupError", .type "Exception", .type "BaseException", .type "object"] = pure () := by kernel_rfl
theorem pass_KE (self : Value) : refuseLoop self "__setattr__" [.type "KeyError", .type "LookupError", .type "Exception", .type "BaseException", .type "object"] = pure () := by kernel_rfl
theorem pass_LE (self : Value) : refuseLoop self "__setattr__" [.type "LookupError", .type "Exception", .type "BaseException", .type "object"] = pure () := by kernel_rfl
theorem pass_OE (self : Value) : refuseLoop self "__setattr__" [.type "OverflowError", .type "ArithmeticError", .type "Exception", .type "BaseException", .type "object"] = pure () := by kernel_rfl
theorem pass_AE (self : Value) : refuseLoop self "__setattr__" [.type "ArithmeticError", .type "Exception", .type "BaseException", .type "object"] = pure () := by kernel_rfl
theorem bases_VE {D : Addr} : Bases "ValueError" [.ref D, .type "ValueError", .type "Exception", .type "BaseException", .type "object"] := .of (by rfl) (pass_ref pass_VE)
theorem bases_IE : Bases "IndexError" [.type "IndexError", .type "LookupError", .type "Exception", .type "BaseException", .type "object"] := .of (by decide +kernel) pass_IE
theorem bases_KE : Bases "LookupError" [.type "KeyError", .type "LookupError", .type "Exception", .type "BaseException", .type "object"] := .of (by decide +kernel) pass_KE
theorem bases_LE : Bases "LookupError" [.type "LookupError", .type "Exception", .type "BaseException", .type "object"] := .of (by decide +kernel) pass_LE
theorem bases_OE : Bases "OverflowError" [.type "OverflowError", .type "ArithmeticError", .type "Exception", .type "BaseException", .type "object"] := .of (by decide +kernel) pass_OE
theorem bases_AE : Bases "ArithmeticError" [.type "ArithmeticError", .type "Exception", .type "BaseException", .type "object"] := .of (by decide +kernel) pass_AE
section
variable {M : Model} {A : Around} {E : Value → Shared → Prop} {h : Heap} {g : Array GenState} {d : Drawn} {t : Nat} {os : OsState}
variable {nm q : Str} {C N : Addr} {bs bm bmB : List Value} {hdct : Bool} {sn : List Str} {sub : List Value} {ab : Bool} {col : Option Bool} {dd : Option Addr} {k0 k1 k2 k3 k5 : Option Value} {B newId initId : String}
theorem new_check (F : ExcBaseFacts B newId initId bmB) (b : Bases B bm) {rest : List Value} {Q : Unit → Shared → Prop}
    (hC : h.get? C = some (excClassObj nm q C N bs bm hdct sn sub ab col dd k0 k1 k2 k3 k5 newId)) (hq : Q () ⟨h, g, d, t, os⟩) : wpAny M A (checkBuiltinCall newId ⟨.ref C :: rest, []⟩) Q E ⟨h, g, d, t, os⟩ := by
  have hcont := b.hB C
  have hstar := F.noStar
  simp only [checkBuiltinCall, F.newKind, F.newSplit, F.newRow]
  repeat (first | refine wpAny_loadPart_at hC ?_ | (refine wpAny_isSubtype_exc hC ?_; rw [hcont]) | refine wpAny_staticBase_exc hC ?_ | refine wpAny_madeBy_exc hC ?_ | simp only [bne_self_eq_false, Bool.false_eq_true, if_false] | wp_step)
  exact hq
end
section
variable {prog : Program} {w : World} {A : Around} {E : Value → Shared → Prop} {R : Result → Shared → Prop} {h : Heap} {g : Array GenState} {d : Drawn} {t : Nat} {os : OsState}
variable {nm q : Str} {C N : Addr} {bs bm bmB : List Value} {hdct : Bool} {sn : List Str} {sub : List Value} {ab : Bool} {col : Option Bool} {dd : Option Addr} {k0 k1 k2 k3 k5 : Option Value} {B newId initId : String}
theorem new_made (F : ExcBaseFacts B newId initId bmB) (b : Bases B bm) {rest : List Value}
    (hC : h.get? C = some (excClassObj nm q C N bs bm hdct sn sub ab col dd k0 k1 k2 k3 k5 newId))
    (hq : R (.ok (.ret (.ref (h.objs.size + 1)))) ⟨(h.push { cls := .type "tuple", data := .seq rest.toArray }).push (excO C h.objs.size), g, d, t, os⟩) (hrest : rest.length ≤ sizeLine) :
    codeAny (model prog w) A (.builtin newId ⟨.ref C :: rest, []⟩) R ⟨h, g, d, t, os⟩ := by
  have hends := F.ends
  have hcB := b.hB C
  have hcA := b.hA C
  have hcN := b.hN C
  refine codeAny_builtinAt F.entry ?_
  unfold Builtin.«BaseException.__new__»
  refine PySem.wpAt_bind ?_
  show PySem.wpAt _ _ _ (stack >>= _) _ _ _
  refine PySem.wpAt_bind (PySem.wpAt_stack fun p below => PySem.wpAt_of_wpAny ?_)
  wp_walk
  refine PySem.wpAt_of_wpAny ?_
  rw [F.owner]
  repeat (first | with_reducible refine wpAny_madeHere_exc F.canon hC ?_ | with_reducible refine wpAny_loadPart_at hC ?_ | (with_reducible refine wpAny_isSubtype_exc hC ?_; first | rw [hcB] | rw [hcA] | rw [hcN]) | wp_step)
  show R _ _
  rw [Heap.size_push]
  exact hq
theorem type_makes (F : ExcBaseFacts B newId initId bmB) (b : Bases B bm) {rest : List Value} {fI : Addr} {Q : Fin → Shared → Prop}
    (hC : h.get? C = some (excClassObj nm q C N bs bm hdct sn sub ab col dd k0 k1 k2 k3 k5 newId))
    (hi : W.Looks (model prog w) h (typeLookup (.ref C) "__init__") (some (.ref fI))) (hb : ∀ self, W.Looks (model prog w) h (bindSpecial (.ref fI) self) (.ref fI, [self])) (hrest : rest.length ≤ sizeLine)
    (hq : codeAny (model prog w) A (.call (.ref fI) ⟨.ref (h.objs.size + 1) :: rest, []⟩)
      (fun r s' => match r with | .ok (.ret v) => v = .none ∧ Q (.done (.ret (.ref (h.objs.size + 1)))) s' | .ok _ => False | .error e => E e s')
      ⟨(h.push (W.kdv_tup rest)).push (excO C h.objs.size), g, d, t, os⟩) :
    wpAny (model prog w) A (Builtin.«type.__call__» ⟨.ref C :: rest, []⟩) Q E ⟨h, g, d, t, os⟩ := by
  repeat (first | with_reducible refine wpAny_loadPart_at hC ?_ | with_reducible refine wpAny_madeBy_exc hC ?_ | wp_step)
  refine codeAny_call_builtin_code (Code.quiet_builtin _ F.quiet) (new_check F b hC ?_)
  refine new_made F b hC ?_ hrest
  show wpAny _ _ _ _ _ _
  have k : ∀ b o, h.get? b = some o → ((h.push (W.kdv_tup rest)).push (excO C h.objs.size)).get? b = some o := fun b o e => Heap.get?_push_of_some _ (Heap.get?_push_of_some _ e)
  have hC₁ := k _ _ hC
  have hget : ((h.push (W.kdv_tup rest)).push (excO C h.objs.size)).get? (h.objs.size + 1) = some (excO C h.objs.size) := by heap_get
  have hcC : (Value.ref C :: bm).contains (.ref C) = true := by simp
  have i1 := hi.keeps k
  have b1 := (hb (.ref (h.objs.size + 1))).keeps k
  unfold isInstance
  repeat (first | with_reducible refine wpAny_loadPart_at hget ?_ | (with_reducible refine wpAny_isSubtype_exc hC₁ ?_; rw [hcC]) | wp_step)
  show wpAny _ _ (typeLookup (.ref C) _) _ _ _
  refine i1.at ?_
  refine wpAny_holding (wpAny_bind (b1.at ?_))
  refine wpAny_bind (wpAny_call (codeAny_mono hq fun r s' z => ?_))
  rcases r with e | (v | _ | _ | _) <;> first | exact z | exact z.elim | skip
  obtain ⟨rfl, z⟩ := z
  first
    | exact wpAny_pure (wpAny_pure z)
    | (wp_walk; exact z)
theorem makes (F : ExcBaseFacts B newId initId bmB) (b : Bases B bm) {rest : List Value} {fI : Addr}
    (hC : h.get? C = some (excClassObj nm q C N bs bm hdct sn sub ab col dd k0 k1 k2 k3 k5 newId))
    (hi : W.Looks (model prog w) h (typeLookup (.ref C) "__init__") (some (.ref fI))) (hb : ∀ self, W.Looks (model prog w) h (bindSpecial (.ref fI) self) (.ref fI, [self])) (hrest : rest.length ≤ sizeLine)
    (hq : codeAny (model prog w) (A.under (.builtin "type.__call__" ⟨.ref C :: rest, []⟩)) (.call (.ref fI) ⟨.ref (h.objs.size + 1) :: rest, []⟩) (W.InitBack (h.objs.size + 1) R)
      ⟨(h.push (W.kdv_tup rest)).push (excO C h.objs.size), g, d, t, os⟩) :
    codeAny (model prog w) A (.call (.ref C) ⟨rest, []⟩) R ⟨h, g, d, t, os⟩ := by
  have f1 := tc_lookup
  have f2 := tc_bind (.ref C)
  have hTy : (⟨h, g, d, t, os⟩ : Shared).TypeIs (.ref C) "type" := ⟨_, hC, rfl⟩
  refine codeAny_of_tree ?_
  show wpAny _ _ (callAny (.ref C) _) _ _ _
  repeat (any_goals (first | assumption | with_reducible refine wpAny_loadPart_at hC ?_ | wp_step))
  refine ⟨rfl, ?_⟩
  refine codeAny_call_builtin_at (Code.quiet_builtin _ (by decide +kernel)) entry_typeCall (wpAny_check_type_call_sub hC (type_makes F b hC hi hb hrest ?_))
  refine codeAny_mono hq fun r s' z => ?_
  rcases r with e | (v | _ | _ | _) <;> exact z
end
/-! ### self.name = v, the first one -/
section
variable {prog : Program} {w : World} {A : Around} {E : Value → Shared → Prop} {R : Result → Shared → Prop} {hp : Heap} {g : Array GenState} {d : Drawn} {t : Nat} {os : OsState}
theorem sets {K : W.Frag} {name : Str} {tk : Tok} {v : Value} {x C : Addr} {fv : Array Value} {cd : ClassData} {B : String} {bm : List Value} (b : Bases B bm)
    (X : K.In hp) (hx : hp.get? x = some { cls := .ref C, data := .fields fv }) (hcd : W.clsIn K C = some cd) (hm : cd.mro = .ref C :: bm) (hh : cd.hasDict = true) (ha : W.findIn K (.ref C) name = some none)
    (hq : ∀ h' tk' dx, (∀ b o, b ≠ x → hp.get? b = some o → h'.get? b = some o) → hp.objs.size ≤ dx → dx ≠ x → h'.get? x = some { cls := .ref C, dict := some dx, data := .fields fv } →
      h'.Ns1 dx (fun y => if y = name then some v else none) → R (.ok (.ret .none)) ⟨h', g, d, tk', os⟩) :
    codeAny (model prog w) A (.call (.builtin "object.__setattr__") ⟨[.ref x, .str name tk, v], []⟩) R ⟨hp, g, d, t, os⟩ := by
  have I : W.InstAt hp x { cls := .ref C, data := .fields fv } C none := ⟨hx, rfl, rfl, trivial⟩
  have SF := F.store_object
  have ne : cd.mro.isEmpty = false := by rw [hm]; rfl
  have hob : cd.mro.contains (.type "object") = true := by rw [hm]; exact b.hO C
  have hxs : x ≠ hp.objs.size := Nat.ne_of_lt (Heap.lt_size hx)
  have sub : W.Looks (model prog w) hp (isInstance (.ref x) (.type "object")) true := I.type.andThen (W.looks_mroIn X (by unfold W.mroIn; rw [hcd, Option.bind_some, if_neg (by rw [ne]; decide), hob]))
  refine codeAny_call_builtin SF.slot.plain SF.entry (@W.check_slot (model prog w) _ _ ⟨hp, g, d, t, os⟩ "object.__setattr__" "object" "__setattr__" (.ref x) [.str name tk, v] [] _ SF.kind SF.split sub (SF.args (.ref x) (.str name tk) v) ?_)
  have hmr : W.Looks (model prog w) hp (mroOf (.ref C)) cd.mro := (W.looks_clsIn X hcd).andThen .now
  have L3 : W.Looks (model prog w) hp (storeTaker? none) none := .now
  have hcls : W.Looks (model prog w) hp (classData C) cd := W.looks_clsIn X hcd
  rw [W.osa_eq, refuse_eq]
  refine wpAny_bind (wpAny_bind (I.type.at (wpAny_bind (hmr.at ?_))))
  rw [hm, b.pass C]
  refine wpAny_pure (wpAny_bind (I.type.at (wpAny_bind ((W.looks_findIn X ha).at (wpAny_bind (L3.at ?_))))))
  show wpAny _ _ (storeInOwnDict (.ref x) (.ref C) (.str name tk) name v false) _ _ _
  obtain ⟨nm, bs, mro, ns, qn, hd, sn, sb, ab, col, del⟩ := cd
  dsimp only at hh
  subst hh
  unfold storeInOwnDict ownDictForStores
  repeat (first | with_reducible refine store_in_new ?_ ?_ | with_reducible refine wpAny_loadPart_at hx ?_ | with_reducible refine hcls.at ?_ | wp_step)
  · exact ⟨_, #[], _, (Heap.get?_update_ne _ _ _ _ hxs.symm).trans (Heap.get?_push_at rfl rfl), rfl, fun e he => absurd he (by simp), fun _ => rfl⟩
  · intro h' tk' hn' hs
    have hx₁ : (hp.push { cls := .type "dict", data := .dict #[] }).get? x = some { cls := .ref C, data := .fields fv } := Heap.get?_push_of_some _ hx
    refine hq h' tk' hp.objs.size (fun b o hb ho => ?_) (Nat.le_refl _) hxs.symm ?_ hn'
    · exact (hs.2 b (Nat.ne_of_lt (Heap.lt_size ho))).trans ((Heap.get?_update_ne _ _ _ _ hb).trans (Heap.get?_push_of_some _ ho))
    · exact (hs.2 x hxs).trans (Heap.get?_update_self _ hx₁ rfl)
end
end Xc

set_option Elab.async false
set_option linter.all false
set_option maxRecDepth 100000
set_option maxHeartbeats 4000000
/-! Xb: rules for errors that are held as values: made, asked for their classes, read, shown; repr of plain values. -/
namespace Xc
open PySem PySem.Spec PySem.Calls PyProof.Rows PySem.HandSPX L2 Gd
/-- what the written part says of an own class with an own __init__ over B -/
structure Own (K : PySem.W.Frag) (C fI : Addr) : Prop where
  made : ∃ B newId initId bmB, ExcBaseFacts B newId initId bmB ∧ ∃ nm q N bs bm sn sub ab col dd k0 k1 k2 k3 k5, K.lookup C = some (excClassObj nm q C N bs bm true sn sub ab col dd k0 k1 k2 k3 k5 newId) ∧ Bases B bm
  sa : PySem.W.findIn K (.ref C) "__setattr__" = some (some (.builtin "object.__setattr__"))
  exC : PySem.W.subIn K (.ref C) (.type "BaseException") = some true
  tyC : PySem.W.typeIn K (.ref C) = some (.type "type")
  kC : PySem.W.keepIn K (.ref C) = true
  iC : PySem.W.findIn K (.ref C) "__init__" = some (some (.ref fI))
  tI : PySem.W.typeIn K (.ref fI) = some (.type "function")
/-- the Bool that says `made` -/
def madeB (K : PySem.W.Frag) (C : Addr) (bm : List Value) (newId : String) : Bool := match K.lookup C with
  | some ⟨.type "type", _, .cls cd, sl⟩ => (match cd.mro, sl.toList with
    | .ref C' :: bm', [_, _, _, _, some (.builtin n), _] => C' == C && (n == newId && (!cd.hasDel && (cd.hasDict && bm' == bm)))
    | _, _ => false)
  | _ => false
theorem made_of {K : PySem.W.Frag} {C : Addr} {bm : List Value} {newId : String} (q : madeB K C bm newId = true) : ∃ nm q N bs sn sub ab col dd k0 k1 k2 k3 k5, K.lookup C = some (excClassObj nm q C N bs bm true sn sub ab col dd k0 k1 k2 k3 k5 newId) := by
  unfold madeB at q
  split at q
  · rename_i dd cd sl ho
    split at q
    · rename_i C' bm' k0 k1 k2 k3 n k5 hm hs
      simp only [Bool.and_eq_true, beq_iff_eq, Bool.not_eq_true'] at q
      obtain ⟨e1, e2, e3, e4, e5⟩ := q
      obtain ⟨nm, bs, mro, ns, qn, hd, sn, sub, ab, col, del⟩ := cd
      dsimp only at hm e3 e4
      subst e1 e2 e3 e4 e5 hm
      have hsl : sl = #[k0, k1, k2, k3, some (.builtin n), k5] := by
        obtain ⟨l⟩ := sl
        simp only at hs
        rw [hs]
      subst hsl
      exact ⟨_, _, _, _, _, _, _, _, _, _, _, _, _, _, ho⟩
    · cases q
  · cases q

/-! ### the object -/
/-- at a: an error of the class at C; its only field (none: a class without an own __init__) -/
def Held (H : Hp) (a C : Addr) : Option (Str × V) → Prop
  | none => H a = some (ExO (.ref C) a)
  | some (f, v) => ∃ d, H a = some (exo a C (some d)) ∧ H d = some (exd d [(f, v)])
section
variable {X : Cx} {pins : List (Addr × Obj)} {σ : L2.St} {H : Hp} {s : Shared}
theorem held_at {a C : Addr} {fl : Option (Str × V)} (I : Inv X pins σ H s) (h : Held H a C fl) : ∃ ox od, PySem.W.InstAt s.heap a ox C od ∧ ∀ f v, fl = some (f, v) → ∃ o u, od = some o ∧ PySem.W.lookIn f o = some (some u) ∧ RelV v u := by
  cases fl with
  | none =>
    obtain ⟨⟨oe, vs, e, z, d, _⟩, _⟩ := (show ObjOk X.prog X.w H s.heap a (ExO (.ref C) a) from I.hok a _ h)
    refine ⟨oe, none, ⟨e, z.1, by unfold PySem.W.notCls; rw [d], by rw [z.2]; trivial⟩, fun f v q => by cases q⟩
  | some p =>
    obtain ⟨f, v⟩ := p
    obtain ⟨d, ea, ed⟩ := h
    obtain ⟨t1, ho⟩ := exo_at I.hok ea
    obtain ⟨mA, hns, rel⟩ := exd_at I.hok ed
    obtain ⟨od, hod, hl⟩ := lookIn_ns hns
    refine ⟨_, some od, ⟨ho, rfl, rfl, hod⟩, fun g w q => ?_⟩
    cases q
    obtain ⟨u, hu, ru⟩ := RelO.some_of (v := v) (o := mA f) (by
      have z := rel f
      rw [lookup_put, if_pos rfl] at z
      exact z)
    exact ⟨od, u, rfl, by rw [hl, hu], ru⟩
/-- isinstance(e, c), e an error that is held -/
def rIsV (K : PySem.W.Frag) : List V → Hp → VK → Prop := fun xs H Q => ∃ (a C : Addr) (fl : Option (Str × V)) (c : V) (u : Value) (b : Bool), xs = [.ref a, c] ∧ Held H a C fl ∧ ExcC K C ∧ ClsV c u ∧ PySem.W.kitOne K (.ref C) u = some b ∧ Q (.bl b) H
theorem call_isV : CallR X (.builtin "isinstance") (rIsV X.K) := by
  intro pins s σ H xs us Q I r h
  obtain ⟨a, C, fl, c, u, b, rfl, hh, hc, k, e, q⟩ := h
  obtain ⟨u1, u2, rfl, r1, r2⟩ := vals2 r
  have e2 := k.eq r2
  subst e2
  cases (show u1 = Value.ref a from r1)
  obtain ⟨ox, od, J, _⟩ := held_at I hh
  have hcl : (PySem.W.clsIn X.K C).isSome = true := by
    obtain ⟨cd, z, _⟩ := PySem.W.any_some hc.hd
    rw [z]
    rfl
  exact PySem.W.kia_one (PySem.W.kitx_exc (ox := ox) (od := od) hcl hc.hg hc.hk hc.hs hc.ha hc.hn hc.ht hc.hm) I.kIn J e (fun z => nomatch z) fun tk => ⟨.bl b, H, I.tok tk, rfl, q⟩
/-- e.f, e an error that is held -/
def tXv (K : PySem.W.Frag) (f : Str) (te : TE) : TE := fun σ H Q => te σ H fun x H1 => ∃ a C v, x = .ref a ∧ Held H1 a C (some (f, v)) ∧ XfC K C ∧ PySem.W.findIn K (.ref C) f = some none ∧ Q v H1
theorem pe_xv {e : Expr} {te : TE} {pos : Pos} {n : Str} (he : PE X e te) (hb : attributeBase e n X.env (eval e X.env) = eval e X.env := by rfl) : PE X (.Attribute e n pos) (tXv X.K n te) := by
  refine ⟨fun pins s σ H Q I h => ?_⟩
  refine attr_of hb (thn (he.run pins s σ H _ I h) fun u s1 hh => ?_)
  obtain ⟨x, H1, I1, rx, a, C, v, ex, hh, T, hno, q⟩ := hh
  subst ex
  obtain rfl : u = Value.ref a := rx
  obtain ⟨ox, od, J, hl⟩ := held_at I1 hh
  obtain ⟨o, u, eo, l, ru⟩ := hl _ _ rfl
  subst eo
  exact HandSPX.exc_get I1.kIn J T.ga T.gg T.exC (PySem.W.findObj_own T.hdC hno rfl l) (handed_of ru) ⟨v, H1, I1.tok _, ru, q⟩
end
/-! ### made -/
section
variable {X : Cx} {pins : List (Addr × Obj)} {σ : L2.St} {H : Hp} {s : Shared} {a C fI : Addr} {f : Str} {y : V} {u : Value} {Q : Unit → Shared → Prop} {E : Value → Shared → Prop} {A : Around}
theorem sets1 (T : Own X.K C fI) (I : Inv X pins σ H s) (e : H a = some (exo a C none)) (hno : PySem.W.findIn X.K (.ref C) f = some none) (ry : RelV y u)
    (h : ∀ dx s', H dx = none → dx ≠ a → Inv X pins σ (upd (upd H dx (exd dx [(f, y)])) a (exo a C (some dx))) s' → Q () s') : wpAny (model X.prog X.w) A (setAttr (.ref a) f u) Q E s := by
  obtain ⟨B, newId, initId, bmB, F, nm, q, N, bs, bm, sn, sub, ab, col, dd, k0, k1, k2, k3, k5, hC, hB⟩ := T.made
  have hcl : PySem.W.clsIn X.K C = some { name := nm, bases := bs, mro := .ref C :: bm, ns := N, qualname := q, hasDict := true, slotNames := sn, subclasses := sub, abstract := ab, collection := col, hasDel := false } := by unfold PySem.W.clsIn; rw [hC] <;> rfl
  obtain ⟨t1, ho⟩ := exo_at I.hok e
  obtain ⟨hp, g, d, t, os⟩ := s
  refine PySem.W.set_plain I.kIn (ox := { cls := .ref C, dict := none, data := .fields #[.ref t1, .none, .none, .none, .bool false, .none] }) (od := none) ⟨ho, rfl, rfl, trivial⟩ T.sa ?_
  refine sets hB I.kIn ho hcl rfl rfl hno (fun h' tk' dx k dn dne hx hn => ?_)
  have hnd : H dx = none := I.hok.fresh dn
  have nd : ∀ {b : Addr} {o : Obj}, hp.get? b = some o → b ≠ dx := fun {b o} q => Nat.ne_of_lt (Nat.lt_of_lt_of_le (Heap.lt_size q) dn)
  have na : ∀ {b : Addr}, H b = none → b ≠ a := fun {b} n z => by
    rw [z, e] at n
    cases n
  have Un1 : Un X.fs [] H (upd (upd H dx (exd dx [(f, y)])) a (exo a C (some dx))) hp h' := {
    keep := fun b o q n _ _ => k b o (na n) q
    slot := fun b o q n _ _ => ⟨o.slots, k b o (na n) q⟩
    free := fun b o q n _ => by rw [upd_ne (na n), upd_ne (nd q)]; exact n
    there := fun b o q _ => by
      by_cases hb : b = a
      · exact ⟨_, by rw [hb]; exact hx⟩
      · exact ⟨o, k b o hb q⟩
    tups := fun b xs q => by rw [upd_ne (at_ne e q exo_tup), upd_ne (ne_of_none q hnd)]; exact q
    frzs := fun b o v q => by rw [upd_ne (at_ne e q exo_frz), upd_ne (ne_of_none q hnd)]; exact q
    tbls := fun b ps q => ⟨#[], by rw [upd_ne (at_ne e q exo_tbl), upd_ne (ne_of_none q hnd), q]; simp⟩ }
  refine h dx _ hnd dne (I.un (t' := tk') Un1 fun b o q => ?_)
  by_cases hb : b = a
  · subst hb
    rw [upd_same] at q
    cases q
    exact exo_ok hx
  · rw [upd_ne hb] at q
    by_cases hd : b = dx
    · subst hd
      rw [upd_same] at q
      cases q
      exact exd_ok hn (relO_put (fs := []) ry fun g => True.intro)
    · rw [upd_ne hd] at q
      exact (I.hok b o q).stay (fun c v hc z => k c v (by
          rcases hc with hc | hc
          · rw [hc]
            exact hb
          · exact at_ne e hc exo_own) z)
        (fun c hc => by rw [upd_ne (at_ne e hc exo_own), upd_ne (ne_of_none hc hnd)]; exact hc) (fun c xs hc => by rw [upd_ne (at_ne e hc exo_tup), upd_ne (ne_of_none hc hnd)]; exact hc)
end
/-- self.f = e in such an __init__ -/
def tSet (K : PySem.W.Frag) (f : Str) (to te : TE) : TS := fun D σ H => te σ H fun y H1 => to σ H1 fun x H2 => ∃ a C fI : Addr, x = .ref a ∧ Own K C fI ∧ PySem.W.findIn K (.ref C) f = some none ∧
  H2 a = some (exo a C none) ∧ ∀ dx, H2 dx = none → dx ≠ a → D.nx σ (upd (upd H2 dx (exd dx [(f, y)])) a (exo a C (some dx)))
/-- what such an __init__ does: its one field is set -/
def spInit (K : PySem.W.Frag) (f : Str) : Sp := fun vs H Q _ => ∃ a C fI y, vs = [.ref a, y] ∧ Own K C fI ∧ PySem.W.findIn K (.ref C) f = some none ∧ H a = some (exo a C none) ∧ ∀ dx, H dx = none → dx ≠ a → Q .non (upd (upd H dx (exd dx [(f, y)])) a (exo a C (some dx)))
section
variable {X : Cx} {o e : Expr} {es : List Expr} {to te : TE} {ta : TA} {f : Str} {p p' p1 p2 pos : Pos}
theorem ps_set1 (ho : PE X o to) (he : PE X e te) (hs : swapsWith e (some (.Attribute o f p')) pos.line X.env = pure false := by rfl) : PS X (.Assign [.Attribute o f p'] e pos) (tSet X.K f to te) := by
  refine ⟨fun pins s σ H D I h => ?_⟩
  refine plainObj_wpAny_Assign_Attribute (thn (he.run pins s σ H _ I h) fun v s1 ⟨y, H1, I1, r1, q1⟩ => thn (ho.run pins s1 σ H1 _ I1 q1) fun u s2 ⟨x, H2, I2, r2, a, C, fI, ex, T, hno, ea, q⟩ => ?_) hs
  subst ex
  obtain rfl : u = Value.ref a := r2
  exact sets1 T I2 ea hno r1 fun dx s' n ne J => ⟨σ, _, J, q dx n ne⟩
/-- C(e), as a value -/
theorem pe_own {CX : CXT} {x : Str} {C fI : Addr} {k : Nat} {fd : FuncData} {ps : List Str} {fl : Str} (T : Own X.K C fI) (F1 : FnOk X.prog X.w X.K X.mg X.base CX k fI fd ps (spInit X.K fl)) (hno : PySem.W.findIn X.K (.ref C) fl = some none)
    (hr : Room (k + 1) X.A) (hb : Binds X.K fd ps []) (hx : Passes CX X (fun _ _ _ => False)) (hg : Gl X x) (hm : X.mg x = some (.ref C)) (he : PE X e te)
    (hdb : (x == ("__debug__" : Str)) = false := by decide) (hs : starEach [e] X.env = (false, eval e X.env) :: starEach [] X.env := by rfl) :
    PE X (.Call (.Name x p) [e] [] pos) (fun σ H Q => te σ H fun y H1 => ∀ a d, H1 a = none → H1 d = none → a ≠ d → Q (.ref a) (upd (upd H1 d (exd d [(fl, y)])) a (exo a C (some d)))) := by
  refine ⟨fun pins s σ H Q I h => ?_⟩
  obtain ⟨B, newId, initId, bmB, F, nm, q, N, bs, bm, sn, sub, ab, col, dd, k0, k1, k2, k3, k5, hC, hB⟩ := T.made
  refine wpAny_Call_Name_kw (ld_glob I hg hm ?_ hdb)
  refine PySem.W.callWith_K (h₀ := X.base) I.ok.mod.kin T.kC ?_ hs (by rfl)
  rw [hs]
  show wpAny _ _ (spliced ((false, eval e X.env) :: backTo pos (starEach [] X.env))) _ _ s
  refine Calls.spliced_cons (thn (he.run pins s σ H _ I h) fun u s1 ⟨v, H1, I1, r1, q1⟩ => ?_)
  refine Calls.spliced_nil ⟨I1.kIn, ?_⟩
  show wpAny _ _ (call (.ref C) [u]) _ _ _
  obtain ⟨hp, g, dr, tk, os⟩ := s1
  have hsz : hp.objs.size ≤ hp.objs.size + 1 := Nat.le_succ _
  have hn : H1 (hp.objs.size + 1) = none := I1.hok.fresh hsz
  have kk : ∀ b o, hp.get? b = some o → ((hp.push (PySem.W.kdv_tup [u])).push (excO C hp.objs.size)).get? b = some o := fun b o e => Heap.get?_push_of_some _ (Heap.get?_push_of_some _ e)
  have hget : ((hp.push (PySem.W.kdv_tup [u])).push (excO C hp.objs.size)).get? (hp.objs.size + 1) = some (excO C hp.objs.size) := by heap_get
  have I2 : Inv X pins σ (upd H1 (hp.objs.size + 1) (exo (hp.objs.size + 1) C none)) ⟨(hp.push (PySem.W.kdv_tup [u])).push (excO C hp.objs.size), g, dr, tk, os⟩ :=
    I1.laid (t' := tk) (a := hp.objs.size + 1) (o := exo (hp.objs.size + 1) C none) (h' := (hp.push (PySem.W.kdv_tup [u])).push (excO C hp.objs.size)) kk hsz (exo_ok hget)
  have r2 : Vals [V.ref (hp.objs.size + 1), v] [Value.ref (hp.objs.size + 1), u] := .cons rfl (.cons r1 .nil)
  have hq : spInit X.K fl [V.ref (hp.objs.size + 1), v] (upd H1 (hp.objs.size + 1) (exo (hp.objs.size + 1) C none)) (fun w G => w = .non ∧ Q (.ref (hp.objs.size + 1)) G) (fun _ _ _ => False) := by
    refine ⟨_, C, fI, v, rfl, T, hno, upd_same, fun dx nd ne => ⟨rfl, ?_⟩⟩
    rw [upd_ne ne] at nd
    have e1 : upd (upd (upd H1 (hp.objs.size + 1) (exo (hp.objs.size + 1) C none)) dx (exd dx [(fl, v)])) (hp.objs.size + 1) (exo (hp.objs.size + 1) C (some dx)) = upd (upd H1 dx (exd dx [(fl, v)])) (hp.objs.size + 1) (exo (hp.objs.size + 1) C (some dx)) := by
      funext b
      by_cases hb : b = hp.objs.size + 1
      · rw [hb, upd_same, upd_same]
      · rw [upd_ne hb, upd_ne hb]
        by_cases hb2 : b = dx
        · rw [hb2, upd_same, upd_same]
        · rw [upd_ne hb2, upd_ne hb2, upd_ne hb]
    rw [e1]
    exact q1 _ dx hn nd (Ne.symm ne)
  have hl : ([Value.ref (hp.objs.size + 1), u] ++ []).length = ps.length := by
    have e := r2.length
    rw [F1.len _ _ _ _ hq] at e
    exact e.symm
  have bd := hb _ [Value.ref (hp.objs.size + 1), u] I2.kIn hl
  rw [List.append_nil] at bd
  refine wpAny_call (makes F hB (I1.kIn _ _ hC) (PySem.W.looks_findIn I1.kIn T.iC) (fun self => PySem.W.bind_fn I1.kIn self T.tI) (by show 1 ≤ sizeLine; rw [sizeLine_eq]; omega)
    (codeAny_mono (F1.run _ X.stack _ _ ⟨[Value.ref (hp.objs.size + 1), u], []⟩ [Value.ref (hp.objs.size + 1), u] _ _ (fun _ _ _ => False) (hr.make C [u] []) (I2.env0.make C [u] []) bd r2 hq) fun r s' hq' => ?_))
  cases r with
  | error er => exact hx pins σ _ _ er s' I2 hq'
  | ok fl =>
    cases fl with
    | ret u' =>
      obtain ⟨w', H2, os2, bare2, un2, hok2, rv, ev, q2⟩ := hq'
      subst ev
      refine ⟨rv, ?_⟩
      exact I2.after (Q := fun _ G => Q (.ref (hp.objs.size + 1)) G) (u := .ref (hp.objs.size + 1)) ⟨.ref (hp.objs.size + 1), H2, os2, bare2, un2, hok2, rfl, q2⟩ |> fun ⟨w2, H3, I3, r3, q3⟩ => ⟨.ref (hp.objs.size + 1), H3, I3, rfl, q3⟩
    | next => exact False.elim hq'
    | brk => exact False.elim hq'
    | cont => exact False.elim hq'
end
end Xc

set_option Elab.async false
set_option linter.all false
set_option maxRecDepth 100000
set_option maxHeartbeats 4000000
/-! Xd: raise C(e) with an own __init__; try with several clauses, each over one class or a tuple of them, with a name or none. -/
namespace Xc
open PySem PySem.Spec PySem.Calls PyProof.Rows PySem.HandSPX L2 Gd
section
variable {M : Model} {K : PySem.W.Frag} {A : Around} {E : Value → Shared → Prop}
theorem loop_unit {I : Shared → Prop} {f : Value → PUnit → Sem (ForInStep PUnit)} : ∀ {cs : List Value} {s : Shared} {Q : PUnit → Shared → Prop}, (∀ c ∈ cs, ∀ R : ForInStep PUnit → Shared → Prop, R (.yield ⟨⟩) s → wpAny M A (f c ⟨⟩) R E s) → Q ⟨⟩ s → wpAny M A (forIn cs PUnit.unit f) Q E s
  | [], s, Q, _, q => by
    rw [List.forIn_nil]
    exact wpAny_pure q
  | c :: cs, s, Q, h, q => by
    rw [List.forIn_cons]
    exact wpAny_bind (h c List.mem_cons_self _ (loop_unit (I := I) (fun d hd => h d (List.mem_cons_of_mem _ hd)) q))
theorem loop_find {cls : Value} {f : Value → Option Bool × PUnit → Sem (ForInStep (Option Bool × PUnit))} : ∀ {cs : List Value} {b : Bool} {s : Shared} {Q : Option Bool × PUnit → Shared → Prop}, PySem.W.exmAny K cls cs = some b →
    (∀ c ∈ cs, ∀ d, PySem.W.exmOne K cls c = some d → ∀ R : ForInStep (Option Bool × PUnit) → Shared → Prop, R (if d then .done (some true, ⟨⟩) else .yield (none, ⟨⟩)) s → wpAny M A (f c (none, ⟨⟩)) R E s) →
    Q (if b then (some true, ⟨⟩) else (none, ⟨⟩)) s → wpAny M A (forIn cs ((none : Option Bool), PUnit.unit) f) Q E s
  | [], b, s, Q, e, _, q => by
    have e : some false = some b := e
    cases e
    rw [List.forIn_nil]
    exact wpAny_pure q
  | c :: cs, b, s, Q, e, h, q => by
    obtain ⟨b1, d1, h1, h2, rfl⟩ := PySem.W.exmAny_cons e
    rw [List.forIn_cons]
    refine wpAny_bind (h c List.mem_cons_self b1 h1 _ ?_)
    cases b1 with
    | true => exact wpAny_pure q
    | false => exact loop_find (cls := cls) h2 (fun d hd => h d (List.mem_cons_of_mem _ hd)) q
theorem exm_at {cls : Value} : ∀ {cs : List Value} {b : Bool}, PySem.W.exmAny K cls cs = some b → ∀ c ∈ cs, ∃ d, PySem.W.exmOne K cls c = some d
  | [], _, _, _, h => nomatch h
  | c :: cs, b, e, x, h => by
    obtain ⟨b1, d1, h1, h2, _⟩ := PySem.W.exmAny_cons e
    rcases List.mem_cons.mp h with rfl | h
    · exact ⟨b1, h1⟩
    · exact exm_at h2 x h
/-- a tuple of classes in an except clause -/
theorem exm_tup {cls : Value} {cs : List Value} {tp e : Addr} {b : Bool} {h : Heap} (X : K.In h) (LT : PySem.W.Looks M h (typeOf (.ref e)) cls) (hp : h.get? tp = some { cls := .type "tuple", data := .seq cs.toArray }) (hx : PySem.W.exmAny K cls cs = some b) :
    PySem.W.Looks M h (excMatches (.ref e) (.ref tp)) b := by
  intro A Q E s k₀ q
  obtain ⟨hh, g, d, tk, os⟩ := s
  have k : ∀ b o, h.get? b = some o → hh.get? b = some o := k₀
  have LT0 : PySem.W.Looks M h (isInstance (.ref tp) (.type "tuple")) true := ((PySem.W.Looks.ld hp).andThen .now).andThen (PySem.W.Looks.of_pure isSubtype_tuple_tuple)
  have LT := LT.keeps k
  have LT0 := LT0.keeps k
  have hp' := k _ _ hp
  unfold excMatches
  refine wpAny_bind (LT0.at ?_)
  dsimp only
  rw [if_pos rfl]
  first
    | refine wpAny_bind (wpAny_seqItems hp' rfl ?_)
    | refine wpAny_bind (wpAny_bind (wpAny_seqItems hp' rfl (wpAny_pure ?_)))
  dsimp only [Option.getD_some, Option.getD]
  refine wpAny_bind (wpAny_pure ?_)
  refine wpAny_bind (loop_unit (I := fun _ => True) (fun c hc R r => ?_) ?_)
  · obtain ⟨d, hd⟩ := exm_at hx c hc
    obtain ⟨e1, _⟩ := PySem.W.exm_cls (M := M) X hd
    refine wpAny_bind ((e1.keeps k).at ?_)
    simp only [Bool.not_true, Bool.false_eq_true, if_false]
    exact wpAny_pure r
  refine wpAny_bind (LT.at ?_)
  refine wpAny_bind (loop_find (K := K) hx (fun c hc d hd R r => ?_) ?_)
  · obtain ⟨_, S1⟩ := PySem.W.exm_cls (M := M) X hd
    refine wpAny_bind ((S1.keeps k).at ?_)
    cases d with
    | true =>
      simp only [if_true]
      exact wpAny_pure r
    | false =>
      simp only [Bool.false_eq_true, if_false]
      exact wpAny_pure r
  cases b with
  | true =>
    simp only [if_true]
    exact wpAny_pure q
  | false =>
    simp only [Bool.false_eq_true, if_false]
    exact wpAny_pure q
end
end Xc

set_option Elab.async false
set_option linter.all false
set_option maxRecDepth 100000
set_option maxHeartbeats 4000000
/-! Xe: try with several clauses, each over one class or a tuple of them, with a name or none. -/
namespace Xc
open PySem PySem.Spec PySem.Calls PyProof.Rows PySem.HandSPX L2 Gd
inductive NmsAll (X : Cx) : List Expr → List Value → Prop
  | nil : NmsAll X [] []
  | cons {x : Str} {c : Value} {p : Pos} {es : List Expr} {cs : List Value} (h : Names X x c) (r : NmsAll X es cs) : NmsAll X (.Name x p :: es) (c :: cs)
/-- the classes that a clause's test names -/
inductive Cl (X : Cx) : Expr → List Value → Prop
  | one {x : Str} {c : Value} {p : Pos} (h : Names X x c) : Cl X (.Name x p) [c]
  | tup {es : List Expr} {cs : List Value} {j : Nat} {p : Pos} (h : NmsAll X es cs) (few : cs.length ≤ sizeLine) : Cl X (.Tuple es j p) cs
/-- one clause: its classes, its slot (if it has a name), its suite's reading -/
abbrev Cla := List Value × Option Nat × (Addr → Value → Option Addr → TS)
abbrev asEnds (D : Ends) (i : Nat) : Ends := { nx := fun σ' H' => D.nx (σ'.set i none) H', rt := D.rt, bk := fun σ' H' => D.bk (σ'.set i none) H', ct := fun σ' H' => D.ct (σ'.set i none) H' }
def suiteW (i : Option Nat) (ts : Addr → Value → Option Addr → TS) (a : Addr) (cls : Value) (d : Option Addr) (D : Ends) (σ : L2.St) (H : Hp) : Prop := match i with
  | none => ts a cls d D σ H
  | some i => ts a cls d (asEnds D i) (σ.set i (some (.ref a))) H
def wG (K : PySem.W.Frag) (Wout : WX) (D : Ends) : List Cla → WX
  | [] => Wout
  | (cs, i, ts) :: r => fun cls d σ H => ∃ b, PySem.W.exmAny K cls cs = some b ∧ (b = true → ∀ a, H a = none → suiteW i ts a cls d D σ H) ∧ (b = false → wG K Wout D r cls d σ H)
inductive HdsG (X : Cx) : List ExceptHandler → List Cla → Prop
  | nil : HdsG X [] []
  | cons {te : Expr} {cs : List Value} {ts : Addr → Value → Option Addr → TS} {b₀ : Stmt} {suite : List Stmt} {pos' : Pos} {hds : List ExceptHandler} {l : List Cla} (ht : Cl X te cs)
      (hsu : ∀ (a : Addr) (oe : Obj) (cls : Value) (d : Option Addr) (pn : List (Addr × Obj)), Zc cls d oe → (∃ vs, oe.data = .fields vs) → PSs (X.suite a ((a, oe) :: pn)) (b₀ :: suite) (ts a cls d)) (r : HdsG X hds l) :
      HdsG X (.ExceptHandler (some te) none (b₀ :: suite) pos' :: hds) ((cs, none, ts) :: l)
  | as {te : Expr} {cs : List Value} {n : Str} {i : Nat} {ts : Addr → Value → Option Addr → TS} {b₀ : Stmt} {suite : List Stmt} {pos' : Pos} {hds : List ExceptHandler} {l : List Cla} (ht : Cl X te cs)
      (hi : X.N[i]? = some n) (hln : X.env.kindOf n = some .local)
      (hsu : ∀ (a : Addr) (oe : Obj) (cls : Value) (d : Option Addr) (pn : List (Addr × Obj)), Zc cls d oe → (∃ vs, oe.data = .fields vs) → PSs (X.suite a ((a, oe) :: pn)) (b₀ :: suite) (ts a cls d)) (r : HdsG X hds l) :
      HdsG X (.ExceptHandler (some te) (some n) (b₀ :: suite) pos' :: hds) ((cs, some i, ts) :: l)
theorem flying_push {B : Heap} {l : List Env} {a : Addr} {Z : Obj → Prop} {h : Heap} {o : Obj} (x : FlyingZ B l a Z h) : FlyingZ B l a Z (h.push o) := by
  have k : ∀ b u, h.get? b = some u → (h.push o).get? b = some u := fun _ _ e => Heap.get?_push_of_some _ e
  obtain ⟨h1, h2, h3, oe, vs, T, oT, ts, e1, e2, e3, e4, e5, e6, e7, e8, e9⟩ := x
  exact ⟨fun b u e => k b u (h1 b u e), h2, Heap.FunFrames.of_keeps (fun b u e _ => ⟨u, k b u e, rfl⟩) h3, oe, vs, T, oT, ts, k _ _ e1, e2, e3, e4, e5, e6, k _ _ e7, e8, e9⟩
section
variable {X : Cx}
/-- a list of class names: nothing changes -/
theorem names_run {E : Value → Shared → Prop} {a : Addr} {q : Addr × Obj} {pn : List (Addr × Obj)} {σ : L2.St} {H : Hp} {s : Shared} {pos : Pos} (S : Inv (X.suite a (q :: pn)) [] σ H s) : ∀ {es : List Expr} {cs : List Value} {Q : List Value → Shared → Prop}, NmsAll X es cs → Q cs s →
    wpAny (model X.prog X.w) (X.A.mark (some (.ref a))) (spliced (backTo pos (starEach es X.env))) Q E s
  | _, _, Q, .nil, h => wpAny_items_nil h
  | _, _, Q, .cons (x := x) (c := c) (p := p) (es := es) (cs := cs) hn r, h => by
    refine wpAny_items_cons ?_
    have go : wpAny (model X.prog X.w) (X.A.mark (some (.ref a))) (spliced (backTo pos (starEach es X.env))) (fun vs s₂ => Q (c :: vs) s₂) E s := names_run S r h
    obtain ⟨hg, hdbg, hm | ⟨hm, hv, hnn⟩⟩ := hn
    · exact ld_glob (X := X.suite a (q :: pn)) S hg hm go hdbg
    · exact ld_blt (X := X.suite a (q :: pn)) S hg hm hv go hnn hdbg
variable {body : List Stmt} {h₀ : ExceptHandler} {hds : List ExceptHandler} {l : List Cla} {pos : Pos} {tb : WX → TS} {Wout : WX}
theorem ps_try_g (hs : X.stack = X.env :: X.outer) (hf : X.env.frame = some X.env.locals) (hN : X.N.Nodup) (tk : Takes X Wout)
    (hb : ∀ (W : WX) (pn : List (Addr × Obj)) (xe : Value → Shared → Prop), Takes (X.tr pn xe) W → PassesOwn (model X.prog X.w) X.A X.env xe → PSs (X.tr pn xe) body (tb W))
    (hh : HdsG X (h₀ :: hds) l) : PS X (.Try body (h₀ :: hds) [] [] pos) (fun D σ H => tb (wG X.K Wout D l) D σ H) := by
  refine ⟨fun pins s σ H D I h => ?_⟩
  have ok := I.ok
  have hfr : X.A.frames = some (X.env :: X.outer) := by rw [ok.frames, hs]
  refine wpAny_Try_except ?_
  refine wpAny_mono ((hb (wG X.K Wout D l) (X.pn ++ pins) (fun e s₁ => wpAny (model X.prog X.w) X.A (noteFrame e X.env) (fun _ s₂ => wpAny (model X.prog X.w) X.A (setFlight e none) (fun _ s₃ =>
    wpAny (model X.prog X.w) X.A (handleBy e X.env (h₀ :: hds)) (SP X pins D) X.xe s₃) X.xe s₂) X.xe s₁) (fun u s' xx => ?_) PassesOwn.looking).run [] s σ H D (I.toTry _) h) (fun f s1 hsp => ?_) (fun e s1 he => he)
  · -- the catch
    obtain ⟨a, B, sI, pins', σ', H', cls, d, rfl, J', nb, up, sky, na, os, ag, w⟩ := xx
    have J : Inv X pins σ' H' sI := J'.ofTry ok
    have sky' : Sky B (X.env :: X.outer) a (Zc cls d) X.env.locals s'.heap := by rw [← hs]; exact sky
    show wpAny (model X.prog X.w) X.A (noteFrame (.ref a) X.env) _ _ _
    refine Sky.land Zc.steady hfr hf sky' fun h3 fl3 up3 => ?_
    have notFr : ∀ {h : Heap} {o : Obj} {vs : Array Value}, h.FunFrames B (X.env :: X.outer) → h.get? a = some o → o.data = .fields vs → a ∉ frs (X.env :: X.outer) := fun {h o vs} ff e dd hm => by
      obtain ⟨_, o', e', hnf⟩ := ff.mem hm
      rw [e] at e'; cases e'
      exact hnf _ dd
    have nfr : a ∉ frs (X.env :: X.outer) := by
      obtain ⟨oe3, vs3, he3, hz3, hd3⟩ := fl3.there
      exact notFr fl3.2.2.1 he3 hd3
    have nL : a ≠ X.env.locals := fun z => nfr (List.mem_filterMap.mpr ⟨X.env, List.mem_cons_self, by rw [hf, z]⟩)
    have nF : a ∉ X.fs := fun hm => by
      obtain ⟨e, he, q⟩ := List.mem_filterMap.mp hm
      exact nfr (List.mem_filterMap.mpr ⟨e, List.mem_cons_of_mem _ he, q⟩)
    have go : ∀ {hds' : List ExceptHandler} {l' : List Cla}, HdsG X hds' l' → ∀ h3 : Heap, FlyingZ B (X.env :: X.outer) a (Zc cls d) h3 → s'.heap.UpToSlots h3 → wG X.K Wout D l' cls d σ' H' →
        wpAny (model X.prog X.w) X.A (handleBy (.ref a) X.env hds') (SP X pins D) X.xe { s' with heap := h3 } := by
      intro hds' l' hk
      -- the test of a clause
      have test : ∀ {te : Expr} {cs : List Value} {b : Bool} {h3 : Heap} {A0 : Bool} {Q : Bool → Shared → Prop} {E : Value → Shared → Prop}, Cl X te cs → FlyingZ B (X.env :: X.outer) a (Zc cls d) h3 → s'.heap.UpToSlots h3 → PySem.W.exmAny X.K cls cs = some b →
          (∀ h4, FlyingZ B (X.env :: X.outer) a (Zc cls d) h4 → s'.heap.UpToSlots h4 → Q b { s' with heap := h4 }) →
          wpAny (model X.prog X.w) (X.A.mark (some (.ref a))) (eval te X.env) (fun c s₁ => wpAny (model X.prog X.w) (X.A.mark (some (.ref a))) (excMatches (.ref a) c) Q E s₁) E { s' with heap := h3 } := by
        intro te cs b h3 A0 Q E hc fl3 up3 hb1 q
        have J3 : Inv X pins σ' H' { s' with heap := h3 } := J.landed nb fl3.1 (up.trans up3) os ag
        obtain ⟨oe3, vs3, he3, hz3, hd3⟩ := fl3.there
        have S3 := J3.suite he3 hd3 na nL nF
        have LT : PySem.W.Looks (model X.prog X.w) h3 (typeOf (.ref a)) cls := fun A Q E s k q => wpAny_typeOf_ref (k _ _ he3) (by rw [hz3.1]; exact q)
        cases hc with
        | @one x c p hn =>
          obtain ⟨b1, d1, h1, h2, e⟩ := PySem.W.exmAny_cons hb1
          have h2 : some false = some d1 := h2
          cases h2
          rw [Bool.or_false] at e
          subst e
          have LM := PySem.W.exm_one (M := model X.prog X.w) (J3.kIn) LT h1
          have go : wpAny (model X.prog X.w) (X.A.mark (some (.ref a))) (excMatches (.ref a) c) Q E { s' with heap := h3 } := LM.here (q h3 fl3 up3)
          obtain ⟨hg, hdbg, hm | ⟨hm, hv, hnn⟩⟩ := hn
          · exact ld_glob (X := X.suite a ((a, oe3) :: (X.pn ++ pins))) S3 hg hm go hdbg
          · exact ld_blt (X := X.suite a ((a, oe3) :: (X.pn ++ pins))) S3 hg hm hv go hnn hdbg
        | @tup es _ j p hn few =>
          refine wpAny_Tuple (names_run S3 hn ⟨few, ?_⟩)
          have kp : ∀ b o, h3.get? b = some o → (h3.push { cls := .type "tuple", data := .seq cs.toArray }).get? b = some o := fun _ _ z => Heap.get?_push_of_some _ z
          have fl4 : FlyingZ B (X.env :: X.outer) a (Zc cls d) (h3.push { cls := .type "tuple", data := .seq cs.toArray }) := flying_push fl3
          exact (exm_tup (PySem.W.Frag.In.keeps J3.kIn kp) (LT.keeps kp) (Heap.get?_push_size h3 rfl) hb1).here (q _ fl4 (up3.trans (Heap.UpToSlots.of_keeps kp)))
      induction hk with
      | nil =>
        intro h3 fl3 up3 w
        refine wpAny_handleBy_nil ?_
        obtain ⟨k1, k2, k3, oe, vs, T, oT, ts', he, hz, hd, h1, hr⟩ := id fl3
        unfold PySem.passOn
        refine wpAny_bind (wpAny_field he hd h1 ?_)
        rw [if_neg (show ¬ ((Value.ref T == Value.none) = true) from by simp)]
        have fin : wpAny (model X.prog X.w) X.A (setFlight (.ref a) X.env.frame) (fun _ s4 => wpAny (model X.prog X.w) X.A (throw (.ref a) : Sem Flow) (SP X pins D) X.xe s4) X.xe { s' with heap := h3 } := by
          rw [hf]
          refine HandSPX.setFlight_upZ fl3 fun h4 hh4 up4 => wpAny_throw (tk _ _ ?_)
          exact ⟨a, B, sI, pins, σ', H', cls, d, rfl, J, nb, (up.trans up3).trans up4, .inr (.inr (by rw [hs]; exact hh4)), na, os, ag, w⟩
        first
          | exact wpAny_bind (wpAny_pure (wpAny_bind fin))
          | exact wpAny_bind fin
      | @cons te cs ts b₀ suite pos' hds2 l2 hc hsu r ih =>
        intro h3 fl3 up3 w
        obtain ⟨b, hb1, hyes, hno⟩ := w
        refine wpAny_handleBy_cons (codeAny_handlers_test (test (A0 := true) hc fl3 up3 hb1 fun h4 fl4 up4 => ?_)) (by intro q; cases q)
        cases b with
        | true =>
          refine codeAny_handlers_suite ?_
          refine HandSPX.lands_againZ fl4 fun h5 fl5 up5 => ?_
          have J4 : Inv X pins σ' H' { s' with heap := h5 } := J.landed nb fl5.1 ((up.trans up4).trans up5) os ag
          obtain ⟨oe4, vs4, he4, hz4, hd4⟩ := fl5.there
          have S4 := J4.suite he4 hd4 na nL nF
          refine wpAny_mono ((hsu a oe4 cls d (X.pn ++ pins) hz4 ⟨_, hd4⟩).run [] _ _ H' _ S4 (hyes rfl a na)) (fun f s6 hsp => ?_) (fun _ _ z => False.elim z)
          cases f with
          | next =>
            obtain ⟨σ6, H6, S6, q6⟩ := hsp
            exact ⟨_, _, S6.unsuite ok, q6⟩
          | brk =>
            obtain ⟨σ6, H6, S6, q6⟩ := hsp
            exact ⟨_, _, S6.unsuite ok, q6⟩
          | cont =>
            obtain ⟨σ6, H6, S6, q6⟩ := hsp
            exact ⟨_, _, S6.unsuite ok, q6⟩
          | ret u =>
            obtain ⟨v6, σ6, H6, S6, r6, q6⟩ := hsp
            exact ⟨_, _, _, S6.unsuite ok, r6, q6⟩
        | false =>
          show wpAny _ X.A (handleBy (.ref a) X.env hds2) _ _ _
          exact ih h4 fl4 up4 (hno rfl)
      | @as te cs n i ts b₀ suite pos' hds2 l2 hc hi hln hsu r ih =>
        intro h3 fl3 up3 w
        obtain ⟨b, hb1, hyes, hno⟩ := w
        have hloc : Loc X.env.scope n := .inl hln
        refine wpAny_handleBy_cons (codeAny_handlers_test (test (A0 := true) hc fl3 up3 hb1 fun h4 fl4 up4 => ?_)) (by intro q; cases q)
        cases b with
        | true =>
          refine codeAny_handlers_suite_as ?_
          refine HandSPX.lands_againZ fl4 fun h5 fl5 up5 => ?_
          have J4 : Inv X pins σ' H' { s' with heap := h5 } := J.landed nb fl5.1 ((up.trans up4).trans up5) os ag
          obtain ⟨oe4, vs4, he4, hz4, hd4⟩ := fl5.there
          have S4 := J4.suite he4 hd4 na nL nF
          refine store_ok (X := X.suite a ((a, oe4) :: (X.pn ++ pins))) (v := .ref a) S4 hN hi hloc rfl (fun s5 S5 => ?_) (.inr hln)
          refine wpAny_mono ((hsu a oe4 cls d (X.pn ++ pins) hz4 ⟨_, hd4⟩).run [] s5 _ H' _ S5 (hyes rfl a na)) (fun f s6 hsp => ?_) (fun _ _ z => False.elim z)
          have end_ : ∀ {σ6 : L2.St} {H6 : Hp} {Q : Shared → Prop}, Inv (X.suite a ((a, oe4) :: (X.pn ++ pins))) [] σ6 H6 s6 → (∀ s7, Inv X pins (σ6.set i none) H6 s7 → Q s7) →
              wpAny (model X.prog X.w) X.A (do bindName X.env n .none; unbindBehindTheSuite X.env n pos') (fun _ s7 => Q s7) X.xe s6 := fun {σ6 H6 Q} S6 hq => gone_ok (S6.unsuite ok) hN hi hln hq
          cases f with
          | next =>
            obtain ⟨σ6, H6, S6, q6⟩ := hsp
            exact end_ S6 fun s7 J7 => ⟨_, _, J7, q6⟩
          | brk =>
            obtain ⟨σ6, H6, S6, q6⟩ := hsp
            exact end_ S6 fun s7 J7 => ⟨_, _, J7, q6⟩
          | cont =>
            obtain ⟨σ6, H6, S6, q6⟩ := hsp
            exact end_ S6 fun s7 J7 => ⟨_, _, J7, q6⟩
          | ret u =>
            obtain ⟨v6, σ6, H6, S6, r6, q6⟩ := hsp
            exact end_ S6 fun s7 J7 => ⟨_, _, _, J7, r6, q6⟩
        | false =>
          show wpAny _ X.A (handleBy (.ref a) X.env hds2) _ _ _
          exact ih h4 fl4 up4 (hno rfl)
    exact go hh h3 fl3 up3 w
  · cases f with
    | next =>
      obtain ⟨σ', H', J', q⟩ := hsp
      exact wpAny_execs_nil ⟨σ', H', J'.ofTry ok, q⟩
    | brk =>
      obtain ⟨σ', H', J', q⟩ := hsp
      exact ⟨σ', H', J'.ofTry ok, q⟩
    | cont =>
      obtain ⟨σ', H', J', q⟩ := hsp
      exact ⟨σ', H', J'.ofTry ok, q⟩
    | ret u =>
      obtain ⟨v, σ', H', J', r, q⟩ := hsp
      exact ⟨v, σ', H', J'.ofTry ok, r, q⟩
end
section
variable {X : Cx} {e : Expr} {te : TE} {p pos : Pos}
/-- C(e), to be raised: C has an own __init__ of one field -/
theorem pmk_ownI {CX : CXT} {x : Str} {C fI : Addr} {k : Nat} {fd : FuncData} {ps : List Str} {fl : Str} (T : Own X.K C fI) (F1 : FnOk X.prog X.w X.K X.mg X.base CX k fI fd ps (spInit X.K fl)) (hno : PySem.W.findIn X.K (.ref C) fl = some none)
    (hr : Room (k + 1) X.A) (hb : Binds X.K fd ps []) (hx : Passes CX X (fun _ _ _ => False)) (hg : Gl X x) (hm : X.mg x = some (.ref C)) (he : PE X e te)
    (hdb : (x == ("__debug__" : Str)) = false := by decide) (hs : starEach [e] X.env = (false, eval e X.env) :: starEach [] X.env := by rfl) :
    PMk X (.Call (.Name x p) [e] [] pos) (fun σ H Q => te σ H fun y H1 => ∀ d, H1 d = none → Q (.ref C) (some d) (upd H1 d (.xd [(fl, y)]))) := by
  intro pins s σ H Q I h
  obtain ⟨B, newId, initId, bmB, F, nm, q, N, bs, bm, sn, sub, ab, col, dd, k0, k1, k2, k3, k5, hC, hB⟩ := T.made
  refine wpAny_Call_Name_kw (ld_glob I hg hm ?_ hdb)
  refine PySem.W.callWith_K (h₀ := X.base) I.ok.mod.kin T.kC ?_ hs (by rfl)
  rw [hs]
  show wpAny _ _ (spliced ((false, eval e X.env) :: backTo pos (starEach [] X.env))) _ _ s
  refine Calls.spliced_cons (thn (he.run pins s σ H _ I h) fun u s1 ⟨v, H1, I1, r1, q1⟩ => ?_)
  refine Calls.spliced_nil ⟨I1.kIn, ?_⟩
  show wpAny _ _ (call (.ref C) [u]) _ _ _
  obtain ⟨hp, g, dr, tk, os⟩ := s1
  have hsz : hp.objs.size ≤ hp.objs.size + 1 := Nat.le_succ _
  have hn : H1 (hp.objs.size + 1) = none := I1.hok.fresh hsz
  have kk : ∀ b o, hp.get? b = some o → ((hp.push (PySem.W.kdv_tup [u])).push (excO C hp.objs.size)).get? b = some o := fun b o e => Heap.get?_push_of_some _ (Heap.get?_push_of_some _ e)
  have hget : ((hp.push (PySem.W.kdv_tup [u])).push (excO C hp.objs.size)).get? (hp.objs.size + 1) = some (excO C hp.objs.size) := by heap_get
  have I2 : Inv X pins σ (upd H1 (hp.objs.size + 1) (exo (hp.objs.size + 1) C none)) ⟨(hp.push (PySem.W.kdv_tup [u])).push (excO C hp.objs.size), g, dr, tk, os⟩ :=
    I1.laid (t' := tk) (a := hp.objs.size + 1) (o := exo (hp.objs.size + 1) C none) (h' := (hp.push (PySem.W.kdv_tup [u])).push (excO C hp.objs.size)) kk hsz (exo_ok hget)
  have r2 : Vals [V.ref (hp.objs.size + 1), v] [Value.ref (hp.objs.size + 1), u] := .cons rfl (.cons r1 .nil)
  have hq : spInit X.K fl [V.ref (hp.objs.size + 1), v] (upd H1 (hp.objs.size + 1) (exo (hp.objs.size + 1) C none)) (fun w G => w = .non ∧ ∃ d, G (hp.objs.size + 1) = some (exo (hp.objs.size + 1) C (some d)) ∧ G d = some (exd d [(fl, v)]) ∧ H1 d = none ∧ Q (.ref C) (some d) (upd (del G (hp.objs.size + 1)) d (.xd [(fl, v)]))) (fun _ _ _ => False) := by
    refine ⟨_, C, fI, v, rfl, T, hno, upd_same, fun dx nd ne => ⟨rfl, dx, upd_same, ?_, ?_, ?_⟩⟩
    · rw [upd_ne ne, upd_same]
    · rw [upd_ne ne] at nd
      exact nd
    · rw [upd_ne ne] at nd
      have e1 : upd (del (upd (upd (upd H1 (hp.objs.size + 1) (exo (hp.objs.size + 1) C none)) dx (exd dx [(fl, v)])) (hp.objs.size + 1) (exo (hp.objs.size + 1) C (some dx))) (hp.objs.size + 1)) dx (.xd [(fl, v)]) = upd H1 dx (.xd [(fl, v)]) := by
        funext b
        by_cases hb2 : b = dx
        · rw [hb2, upd_same, upd_same]
        · rw [upd_ne hb2, upd_ne hb2]
          by_cases hb : b = hp.objs.size + 1
          · rw [hb, del_same, hn]
          · rw [del_ne hb, upd_ne hb, upd_ne hb2, upd_ne hb]
      rw [e1]
      exact q1 dx nd
  have hl : ([Value.ref (hp.objs.size + 1), u] ++ []).length = ps.length := by
    have e := r2.length
    rw [F1.len _ _ _ _ hq] at e
    exact e.symm
  have bd := hb _ [Value.ref (hp.objs.size + 1), u] I2.kIn hl
  rw [List.append_nil] at bd
  refine wpAny_call (makes F hB (I1.kIn _ _ hC) (PySem.W.looks_findIn I1.kIn T.iC) (fun self => PySem.W.bind_fn I1.kIn self T.tI) (by show 1 ≤ sizeLine; rw [sizeLine_eq]; omega)
    (codeAny_mono (F1.run _ X.stack _ _ ⟨[Value.ref (hp.objs.size + 1), u], []⟩ [Value.ref (hp.objs.size + 1), u] _ _ (fun _ _ _ => False) (hr.make C [u] []) (I2.env0.make C [u] []) bd r2 hq) fun r s' hq' => ?_))
  cases r with
  | error er => exact hx pins σ _ _ er s' I2 hq'
  | ok fl =>
    cases fl with
    | ret u' =>
      obtain ⟨w', H2, os2, bare2, un2, hok2, rv, ev, d, ea, ed, hd1, q2⟩ := hq'
      subst ev
      obtain ⟨h2, g2, d2, t2, os'⟩ := s'
      exact ⟨rv, mk_end (raises_own T.exC T.tyC) I1 hsz kk un2 hok2 os2 bare2 ea ed hd1 q2⟩
    | next => exact False.elim hq'
    | brk => exact False.elim hq'
    | cont => exact False.elim hq'
end
end Xc

set_option Elab.async false
set_option linter.all false
set_option maxRecDepth 100000
set_option maxHeartbeats 4000000
/-! Xf: repr of plain values, str of an error whose class has an own __str__. -/
namespace Xc
open PySem PySem.Spec PySem.Calls PyProof.Rows PySem.HandSPX L2 Gd
/-- a value and its repr -/
inductive Sh (K : PySem.W.Frag) (H : Hp) : V → Str → Prop
  | non : Sh K H .non "None"
  | bl (b : Bool) : Sh K H (.bl b) (if b then "True" else "False")
  | int (i : Int) (few : i.natAbs.log2 < 1920) : Sh K H (.int i) (toString i)
  | str (x : Str) (few : (reprText x).length ≤ sizeLine) : Sh K H (.str x) (reprText x)
  | dat {a : Addr} {d : PyData} (h : Dp K H (.ref a) d) (h1 : d.showable = true) (h2 : d.hasDict = false) (h3 : d.depth < 60) (h4 : d.shown.length ≤ sizeLine) : Sh K H (.ref a) d.shown
  | emp {a : Addr} (h : H a = some (.dK [])) : Sh K H (.ref a) (PyData.dict []).shown
def rSh (K : PySem.W.Frag) : List V → Hp → VK → Prop := fun vs H Q => ∃ v s, vs = [v] ∧ Sh K H v s ∧ Q (.str s) H
theorem call_sh {X : Cx} (hgd : X.A.guards = some []) (hu : X.A.units + 64 < cLine) : CallR X (.builtin "repr") (rSh X.K) := by
  intro pins s σ H vs us Q I r h
  obtain ⟨v, z, rfl, hs, q⟩ := h
  obtain ⟨u, rfl, ru⟩ := vals1 r
  cases hs with
  | non =>
    cases (show u = Value.none from ru)
    exact PySem.P.repr_of_none ⟨.str _, H, I.tok _, ⟨_, rfl⟩, q⟩
  | bl b =>
    cases (show u = Value.bool b from ru)
    exact PySem.P.repr_of_bool ⟨.str _, H, I.tok _, ⟨_, rfl⟩, q⟩
  | int i few =>
    obtain ⟨t, rfl⟩ := (show ∃ t, u = Value.int i t from ru)
    exact PySem.P.repr_of_int few ⟨.str _, H, I.tok _, ⟨_, rfl⟩, q⟩
  | str x few =>
    obtain ⟨t, rfl⟩ := (show ∃ t, u = Value.str x t from ru)
    exact PySem.P.repr_of_str ⟨.str _, H, I.tok _, ⟨_, rfl⟩, q⟩ few
  | @dat a d hd h1 h2 h3 h4 =>
    cases (show u = Value.ref a from ru)
    obtain ⟨as, hR⟩ := Dp.reads I d (.ref a) (.ref a) hd rfl
    refine repr_of_reads' hR h1 (PyData.noDict_hsm h2) hgd (by omega) (fun _ _ z => z) (fun h' u tk hk => ?_) h4
    exact ⟨.str d.shown, H, I.kept (t' := tk) hk, ⟨u, rfl⟩, q⟩
  | @emp a ha =>
    cases (show u = Value.ref a from ru)
    obtain ⟨_, hsm, vs, hkv, o, es, ep, ho, hx, hd, _, hp, _⟩ := dk_of I.hok ha
    cases hkv
    have he : es.toList = [] := by
      generalize es.toList = l at hp
      cases hp
      rfl
    have hR : Reads s.heap (.ref a) (.dict []) (a :: ([] : List Addr) ++ []) := Reads.dict ho hx.1 hd (by rw [he]; exact .nil) (by rw [he]; exact .nil)
    refine repr_of_reads' hR (by decide) (fun _ => ?_) hgd (Nat.lt_of_le_of_lt (Nat.add_le_add_left (show (PyData.dict []).depth + 1 ≤ 64 by decide +kernel) _) hu) (fun _ _ z => z) (fun h' u tk hk => ?_) (by decide +kernel)
    · intro z
      have z2 : sysModules = a := by simpa using z
      rw [← z2] at hsm
      simp at hsm
    · exact ⟨.str _, H, I.kept (t' := tk) hk, ⟨u, rfl⟩, q⟩
/-! ### str(e), by an own __str__ -/
/-- what such a __str__ answers: the repr of the only field -/
def spStr (K : PySem.W.Frag) (fl : Str) : Sp := fun vs H Q _ => ∃ a C v s, vs = [.ref a] ∧ Held H a C (some (fl, v)) ∧ XfC K C ∧ PySem.W.findIn K (.ref C) fl = some none ∧ Sh K H v s ∧ Q (.str s) H
def rStr (K : PySem.W.Frag) (f : Addr) (sp : Sp) : List V → Hp → VK → Prop := fun vs H Q => ∃ a C fl, vs = [.ref a] ∧ Held H a C fl ∧ PySem.W.findIn K (.ref C) "__str__" = some (some (.ref f)) ∧ sp [.ref a] H (fun v G => ∃ x, v = .str x ∧ Q v G) (fun _ _ _ => False)
theorem call_str {X : Cx} {CX : CXT} {k : Nat} {f : Addr} {fd : FuncData} {ps : List Str} {sp : Sp} (F : FnG X.prog X.w X.K X.mg X.base CX k f fd ps sp) (hr : Room (k + 2) X.A) (hgd : X.A.guards = some []) (hf : PySem.W.isFn X.K (.ref f) = true) (hb : Binds X.K fd ps [])
    (hx : Passes CX X (fun _ _ _ => False)) : CallR X (.type "str") (rStr X.K f sp) := by
  intro pins s σ H vs us Q I r h
  obtain ⟨a, C, fl, rfl, hh, hs, q⟩ := h
  obtain ⟨u, rfl, ru⟩ := vals1 r
  cases (show u = Value.ref a from ru)
  obtain ⟨ox, od, J, _⟩ := held_at I hh
  have hl : ([Value.ref a] ++ []).length = ps.length := by
    have e := F.lenG _ _ _ _ q
    rw [List.append_nil]
    exact e
  have bd := hb s [Value.ref a] I.kIn hl
  rw [List.append_nil] at bd
  have r2 : Room k X.A.in1.in1 := (hr.in1).in1
  refine PySem.W.kso_call (by have := r2.un; omega) I.kIn J hs hf ?_
  refine wpAny_call (codeAny_mono (F.runG X.A.in1.in1 X.stack s H ⟨[.ref a], []⟩ [.ref a] [.ref a] _ _ r2 hgd (I.env0.in1).in1 bd (.cons rfl .nil) q) fun res s2 h3 => ?_)
  cases res with
  | error e => exact hx pins σ H s e s2 I h3
  | ok fl =>
    cases fl with
    | ret u =>
      obtain ⟨v, H2, I2, rv, x, ev, q2⟩ := I.after h3
      subst ev
      obtain ⟨t, rfl⟩ := (show ∃ t, u = Value.str x t from rv)
      exact ⟨.str x, H2, I2, ⟨t, rfl⟩, q2⟩
    | next => exact False.elim h3
    | brk => exact False.elim h3
    | cont => exact False.elim h3
end Xc

set_option Elab.async false
set_option linter.all false
set_option maxRecDepth 100000
set_option maxHeartbeats 4000000
namespace K1
open PySem PySem.Spec PyProof.Rows L2 Gd
/-! ### the text -/
def topS (i : Nat) : Stmt := PySem.Challenge.pw_setchooser_k01_whole_errors.main.body.getD i (.Pass ⟨0, 0, 0, 0⟩)
def inS (i j : Nat) : Stmt := match topS i with
  | .ClassDef _ _ _ b _ _ _ _ _ _ _ => b.getD j (.Pass ⟨0, 0, 0, 0⟩)
  | _ => .Pass ⟨0, 0, 0, 0⟩
abbrev s_sack : Stmt := topS 15
abbrev s_grab : Stmt := topS 16
abbrev s_one_of : Stmt := topS 17
abbrev s_shuffled : Stmt := topS 18
abbrev s_letter : Stmt := topS 19
abbrev s_made_one : Stmt := topS 20
abbrev s_raised : Stmt := topS 21
abbrev s_classes : Stmt := topS 22
abbrev s_bases : Stmt := topS 23
abbrev s_due : Stmt := topS 24
abbrev s_is_kept : Stmt := topS 25
abbrev s_caught : Stmt := topS 26
abbrev s_by_base : Stmt := topS 27
abbrev s_worth : Stmt := topS 28
abbrev s_cell_right : Stmt := topS 29
abbrev s_law : Stmt := topS 30
abbrev nm_sack : List Str := ["_law_script", "_law_at", "_law_cell", "_law_great", "_law_mixed"]
abbrev nm_grab : List Str := ["_law_sack_here", "_law_total", "_law_found", "_law_one", "_law_two"]
abbrev nm_one_of : List Str := ["_law_sack_here", "_law_items"]
abbrev nm_shuffled : List Str := ["_law_sack_here", "_law_items", "_law_waits", "_law_turn"]
abbrev nm_letter : List Str := ["_law_sack_here"]
abbrev nm_made_one : List Str := ["_law_lot", "_law_value"]
abbrev nm_raised : List Str := ["_law_lot", "_law_value"]
abbrev nm_classes : List Str := ["_law_error", "_law_found"]
abbrev nm_bases : List Str := ["_law_error", "_law_found"]
abbrev nm_due : List Str := ["_law_lot", "_law_some", "_law_at"]
abbrev nm_is_kept : List Str := ["_law_lot", "_law_error", "_law_value"]
abbrev nm_caught : List Str := ["_law_lot", "_law_value", "_law_error"]
abbrev nm_by_base : List Str := ["_law_lot", "_law_value"]
abbrev nm_worth : List Str := ["_law_sack_here", "_law_lot", "_law_letters", "_law_number", "_law_odd", "_law_at"]
abbrev nm_cell_right : List Str := ["_law_sack_here", "_law_found", "_law_lot", "_law_value", "_law_error"]
abbrev nm_law : List Str := ["_law_script", "_law_at"]
theorem sc_sack : FnScope nm_sack ["_law_script", "_law_at"] (defScope s_sack) := ⟨rfl, rfl, rfl, by decide +kernel, rfl, by decide +kernel, by decide +kernel⟩
theorem sc_grab : FnScope nm_grab ["_law_sack_here", "_law_total"] (defScope s_grab) := ⟨rfl, rfl, rfl, by decide +kernel, rfl, by decide +kernel, by decide +kernel⟩
theorem sc_one_of : FnScope nm_one_of ["_law_sack_here", "_law_items"] (defScope s_one_of) := ⟨rfl, rfl, rfl, by decide +kernel, rfl, by decide +kernel, by decide +kernel⟩
theorem sc_shuffled : FnScope nm_shuffled ["_law_sack_here", "_law_items"] (defScope s_shuffled) := ⟨rfl, rfl, rfl, by decide +kernel, rfl, by decide +kernel, by decide +kernel⟩
theorem sc_letter : FnScope nm_letter ["_law_sack_here"] (defScope s_letter) := ⟨rfl, rfl, rfl, by decide +kernel, rfl, by decide +kernel, by decide +kernel⟩
theorem sc_made_one : FnScope nm_made_one ["_law_lot", "_law_value"] (defScope s_made_one) := ⟨rfl, rfl, rfl, by decide +kernel, rfl, by decide +kernel, by decide +kernel⟩
theorem sc_raised : FnScope nm_raised ["_law_lot", "_law_value"] (defScope s_raised) := ⟨rfl, rfl, rfl, by decide +kernel, rfl, by decide +kernel, by decide +kernel⟩
theorem sc_classes : FnScope nm_classes ["_law_error"] (defScope s_classes) := ⟨rfl, rfl, rfl, by decide +kernel, rfl, by decide +kernel, by decide +kernel⟩
theorem sc_bases : FnScope nm_bases ["_law_error"] (defScope s_bases) := ⟨rfl, rfl, rfl, by decide +kernel, rfl, by decide +kernel, by decide +kernel⟩
theorem sc_due : FnScope nm_due ["_law_lot"] (defScope s_due) := ⟨rfl, rfl, rfl, by decide +kernel, rfl, by decide +kernel, by decide +kernel⟩
theorem sc_is_kept : FnScope nm_is_kept ["_law_lot", "_law_error", "_law_value"] (defScope s_is_kept) := ⟨rfl, rfl, rfl, by decide +kernel, rfl, by decide +kernel, by decide +kernel⟩
theorem sc_caught : FnScope nm_caught ["_law_lot", "_law_value"] (defScope s_caught) := ⟨rfl, rfl, rfl, by decide +kernel, rfl, by decide +kernel, by decide +kernel⟩
theorem sc_by_base : FnScope nm_by_base ["_law_lot", "_law_value"] (defScope s_by_base) := ⟨rfl, rfl, rfl, by decide +kernel, rfl, by decide +kernel, by decide +kernel⟩
theorem sc_worth : FnScope nm_worth ["_law_sack_here", "_law_lot"] (defScope s_worth) := ⟨rfl, rfl, rfl, by decide +kernel, rfl, by decide +kernel, by decide +kernel⟩
theorem sc_cell_right : FnScope nm_cell_right ["_law_sack_here"] (defScope s_cell_right) := ⟨rfl, rfl, rfl, by decide +kernel, rfl, by decide +kernel, by decide +kernel⟩
theorem sc_law : FnScope nm_law ["_law_script"] (defScope s_law) := ⟨rfl, rfl, rfl, by decide +kernel, rfl, by decide +kernel, by decide +kernel⟩
/-! ### what the module has -/
structure Blt (mg : Str → Option Value) : Prop where
  len_ : mg "len" = none
  range_ : mg "range" = none
  isinstance_ : mg "isinstance" = none
  int_ : mg "int" = none
  str_ : mg "str" = none
  tuple_ : mg "tuple" = none
  list_ : mg "list" = none
  sorted_ : mg "sorted" = none
  abs_ : mg "abs" = none
  max_ : mg "max" = none
  min_ : mg "min" = none
  repr_ : mg "repr" = none
  ValueError_ : mg "ValueError" = none
  LookupError_ : mg "LookupError" = none
  IndexError_ : mg "IndexError" = none
  KeyError_ : mg "KeyError" = none
  ArithmeticError_ : mg "ArithmeticError" = none
  OverflowError_ : mg "OverflowError" = none
  ZeroDivisionError_ : mg "ZeroDivisionError" = none
/-- a def of the module that keeps its promise -/
structure Has (P : Program) (w : World) (K : PySem.W.Frag) (mg : Str → Option Value) (base : Heap) (k : Nat) (x : Str) (ps : List Str) (sp : Sp) : Prop where
  ex : ∃ (f : Addr) (fd : FuncData), FnOk P w K mg base CX0 k f fd ps sp ∧ mg x = some (.ref f) ∧ PySem.W.keepIn K (.ref f) = true ∧ Binds K fd ps []
/-! ### chance -/
def letters : Str := "abcdefghijklmnopqrstuvwxyz"
/-! ### the law's store of chance -/
def Sack (H : Hp) (k : Addr) : Prop := ∃ a b c : Int, H k = some (.lst [.int a, .int b, .int c]) ∧ 0 ≤ a ∧ a.natAbs < 2 ^ 3000
/-- all but the store is as it was -/
structure But (k : Addr) (H G : Hp) : Prop where
  stay : ∀ b x, b ≠ k → H b = some x → G b = some x
  sack : Sack G k
theorem But.trans {k : Addr} {H G F : Hp} (a : But k H G) (b : But k G F) : But k H F := ⟨fun c x n e => b.stay c x n (a.stay c x n e), b.sack⟩
theorem But.same {k : Addr} {H G : Hp} (h : Sack H k) (s : Same H G) : But k H G := by
  obtain ⟨a, b, c, e, r⟩ := h
  exact ⟨fun d x _ z => s d x z, a, b, c, s _ _ e, r⟩
theorem But.up {k p : Addr} {H G : Hp} {o : HO} (a : But k H G) (n : G p = none) : But k H (upd G p o) := a.trans (But.same a.sack (Same.newG n))
theorem But.free {k p : Addr} {H G : Hp} (a : But k H G) (h : Sack H k) (n : G p = none) : H p = none := by
  cases q : H p with
  | none => rfl
  | some x =>
    by_cases e : p = k
    · obtain ⟨_, _, _, z, _⟩ := a.sack
      rw [← e, n] at z
      cases z
    · rw [a.stay p x e q] at n
      cases n
theorem fm_pos {x m : Int} (h : 0 < m) : 0 ≤ x.fmod m ∧ x.fmod m < m := by
  rw [Int.fmod_eq_emod_of_nonneg x (Int.le_of_lt h)]
  exact ⟨Int.emod_nonneg x (by omega), Int.emod_lt_of_pos x h⟩
section
variable {P : Program} {w : World} {K : PySem.W.Frag} {mg : Str → Option Value} {base : Heap}
def spGrab : Sp := fun vs H Q _ => ∃ (k : Addr) (m : Int), vs = [.ref k, .int m] ∧ Sack H k ∧ 0 < m ∧ m < 2 ^ 80 ∧ ∀ G n, But k H G → 0 ≤ n → n < m → Q (.int n) G
theorem ok_grab {f : Addr} {fd : FuncData} (F : Fun K "_law_grab" "_law_grab" s_grab f fd) (B : Blt mg) : FnOk P w K mg base CX0 1 f fd ["_law_sack_here", "_law_total"] spGrab := by
  refine F.ok sc_grab (fun vs H Q E h => ?_) (fun cdv A outer s H vs Q E hr h => ?_)
  · obtain ⟨k, m, rfl, _⟩ := h
    rfl
  obtain ⟨k, m, rfl, hk, m0, m1, q⟩ := h
  refine ⟨_, (pss_cons (ps_if (pt_cmpR op_gt (pe_ix ix_list (pv 0) pe_int (fun _ _ => rfl)) pe_int (nomark _)) (pss_cons (ps_set (i := 2) sc_grab.nd rfl (.inl rfl) (pe_op op_modN (pe_callTy call_int1 (by rfl) B.int_ (by decide +kernel) (pa_cons (pe_ix ix_list (pv 0) pe_int (fun _ _ => rfl)) pa_nil)) (pv 1)))
  (pss_cons (ps_asg (pe_op op_fdivW (pe_ix ix_list (pv 0) pe_int (fun _ _ => rfl)) (pv 1)) (pg_sub (pv 0) pe_int set_list))
  (pss_one (ps_ret (pv 2))))) pss_nil)
  (pss_cons (ps_asg (pe_op op_add (pe_ix ix_list (pv 0) pe_int (fun _ _ => rfl)) pe_int) (pg_sub (pv 0) pe_int set_list))
  (pss_cons (ps_set (i := 3) sc_grab.nd rfl (.inl rfl) (pe_op op_modN (pe_callTy call_int1 (by rfl) B.int_ (by decide +kernel) (pa_cons (pe_op op_add (pe_ix ix_list (pv 0) pe_int (fun _ _ => rfl)) (pe_op op_mul pe_int (pe_ix ix_list (pv 0) pe_int (fun _ _ => rfl)))) pa_nil)) pe_int))
  (pss_cons (ps_set (i := 4) sc_grab.nd rfl (.inl rfl) (pe_op op_add (pe_op op_mul (pe_op op_modN (pe_callTy call_int1 (by rfl) B.int_ (by decide +kernel) (pa_cons (pe_op op_mul (pv 3) (pv 3)) pa_nil)) pe_int) (pv 3)) (pe_op op_mul pe_int (pe_ix ix_list (pv 0) pe_int (fun _ _ => rfl)))))
  (pss_one (ps_ret (pe_op op_modN (pe_callTy call_int1 (by rfl) B.int_ (by decide +kernel) (pa_cons (pe_op op_fdivW (pe_op op_modN (pe_callTy call_int1 (by rfl) B.int_ (by decide +kernel) (pa_cons (pv 4) pa_nil)) pe_int) pe_int) pa_nil)) (pv 1)))))))), ?_⟩
  obtain ⟨a, b, c, hH, a0, a1⟩ := hk
  have hS : SqL K H k [.int a, .int b, .int c] := .inl (.inl hH)
  have mne : m ≠ 0 := by omega
  have mabs : m.natAbs < 2 ^ 80 := by omega
  refine ⟨.ref k, rfl, k, _, 0, .int a, rfl, rfl, hS, atI_nat (j := 0) rfl, a, 0, rfl, rfl, _, rfl, ite2 (fun z => ?_) (fun _ => ?_)⟩
  · refine ⟨.ref k, rfl, k, _, 0, .int a, rfl, rfl, hS, atI_nat (j := 0) rfl, .inl ⟨a, rfl, .int m, rfl, a, m, rfl, rfl, mne, ?_⟩⟩
    refine ⟨.ref k, rfl, k, _, 0, .int a, rfl, rfl, hS, atI_nat (j := 0) rfl, .int m, rfl, a, m, rfl, rfl, wide_div m0 mabs (by decide) (by decide), ?_⟩
    refine ⟨.ref k, rfl, k, _, 0, 0, rfl, rfl, hH, rfl, .int (a.fmod m), rfl, ?_⟩
    refine q _ _ ⟨fun d x n e => by rw [upd_ne n]; exact e, a / m, b, c, upd_same, ?_, ?_⟩ (fm_pos m0).1 (fm_pos m0).2
    · exact Int.ediv_nonneg a0 (Int.le_of_lt m0)
    · have h1 : a / m ≤ a := Int.ediv_le_self m a0
      have h2 : 0 ≤ a / m := Int.ediv_nonneg a0 (Int.le_of_lt m0)
      omega
  · refine ⟨.ref k, rfl, k, _, 2, .int c, rfl, rfl, hS, atI_nat (j := 2) rfl, c, 1, rfl, rfl, .ref k, rfl, k, _, 2, 2, rfl, rfl, hH, rfl, ?_⟩
    have hH2 : (upd H k (.lst [.int a, .int b, .int (c + 1)])) k = some (.lst [.int a, .int b, .int (c + 1)]) := upd_same
    have hS2 : SqL K (upd H k (.lst [.int a, .int b, .int (c + 1)])) k [.int a, .int b, .int (c + 1)] := .inl (.inl hH2)
    refine ⟨.ref k, rfl, k, _, 1, .int b, rfl, rfl, hS2, atI_nat (j := 1) rfl, .ref k, rfl, k, _, 2, .int (c + 1), rfl, rfl, hS2, atI_nat (j := 2) rfl, 1000427, c + 1, rfl, rfl, .inl ⟨by decide, by decide⟩, b, _, rfl, rfl, .inl ⟨_, rfl, _, _, rfl, rfl, (show (2305843009213693951 : Int) ≠ 0 by decide), ?_⟩⟩
    have one := fm_pos (x := b + 1000427 * (c + 1)) (m := 2305843009213693951) (by decide)
    have lo : -(2 ^ 64) < (b + 1000427 * (c + 1)).fmod 2305843009213693951 := by omega
    have hi : (b + 1000427 * (c + 1)).fmod 2305843009213693951 < 2 ^ 64 := by omega
    refine ⟨_, rfl, _, rfl, _, _, rfl, rfl, .inl ⟨lo, hi⟩, .inl ⟨_, rfl, _, _, rfl, rfl, (show (2305843009213693921 : Int) ≠ 0 by decide), _, rfl, _, _, rfl, rfl, .inr ⟨lo, hi⟩, .ref k, rfl, k, _, 2, .int (c + 1), rfl, rfl, hS2, atI_nat (j := 2) rfl, 9103, c + 1, rfl, rfl, .inl ⟨by decide, by decide⟩, _, _, rfl, rfl, ?_⟩⟩
    refine ⟨_, rfl, .inl ⟨_, rfl, _, _, rfl, rfl, (show (2305843009213693907 : Int) ≠ 0 by decide), _, _, rfl, rfl, wide_div (b := 15) (by decide) (by decide) (by decide) (by decide), .inl ⟨_, rfl, .int m, rfl, _, m, rfl, rfl, mne, ?_⟩⟩⟩
    exact q _ _ ⟨fun d x n e => by rw [upd_ne n]; exact e, a, b, c + 1, upd_same, a0, a1⟩ (fm_pos m0).1 (fm_pos m0).2
def spOne : Sp := fun vs H Q _ => ∃ (k l : Addr) (xs : List V), vs = [.ref k, .ref l] ∧ Sack H k ∧ l ≠ k ∧ H l = some (.lst xs) ∧ xs ≠ [] ∧ xs.length ≤ 1000 ∧ ∀ G x, But k H G → x ∈ xs → Q x G
theorem ok_one_of {f : Addr} {fd : FuncData} (F : Fun K "_law_one_of" "_law_one_of" s_one_of f fd) (B : Blt mg) (C : Has P w K mg base 1 "_law_grab" ["_law_sack_here", "_law_total"] spGrab) : FnOk P w K mg base CX0 2 f fd ["_law_sack_here", "_law_items"] spOne := by
  obtain ⟨f1, fd1, G_grab, g_grab, k_grab, b_grab⟩ := C.ex
  refine F.ok sc_one_of (fun vs H Q E h => ?_) (fun cdv A outer s H vs Q E hr h => ?_)
  · obtain ⟨k, l, xs, rfl, _⟩ := h
    rfl
  obtain ⟨k, l, xs, rfl, hk, ne, hl, nn, few, q⟩ := h
  refine ⟨_, (pss_one (ps_ret (pe_ix ix_list (pv 1) (pe_call G_grab (hr.mono (by decide)) (by rfl) g_grab k_grab b_grab .nil pass0 (pa_cons (pv 0) (pa_cons (pe_callB call_len_seq (by rfl) B.len_ (by decide +kernel) (pa_cons (pv 1) pa_nil)) pa_nil))) (fun _ _ => rfl)))), ?_⟩
  have hp : 0 < xs.length := by
    rcases xs with _ | ⟨x, r⟩
    · exact absurd rfl nn
    · simp
  refine ⟨.ref l, rfl, .ref k, rfl, .ref l, rfl, l, xs, rfl, .inl (.inl (.inl hl)), k, _, rfl, hk, by omega, by omega, fun G n bt n0 n1 => ?_⟩
  obtain ⟨j, rfl⟩ := Int.eq_ofNat_of_zero_le n0
  have hj : j < xs.length := by omega
  exact ⟨l, xs, _, xs[j], rfl, rfl, .inl (.inl (bt.stay _ _ ne hl)), atI_nat (List.getElem?_eq_getElem hj), q G _ bt (List.getElem_mem hj)⟩
def spLetter : Sp := fun vs H Q _ => ∃ (k : Addr), vs = [.ref k] ∧ Sack H k ∧ ∀ G c, But k H G → c ∈ letters.cps.toList → Q (.str ⟨#[c]⟩) G
theorem ok_letter {f : Addr} {fd : FuncData} (F : Fun K "_law_letter" "_law_letter" s_letter f fd) (B : Blt mg) (C : Has P w K mg base 1 "_law_grab" ["_law_sack_here", "_law_total"] spGrab) : FnOk P w K mg base CX0 2 f fd ["_law_sack_here"] spLetter := by
  obtain ⟨f1, fd1, G_grab, g_grab, k_grab, b_grab⟩ := C.ex
  refine F.ok sc_letter (fun vs H Q E h => ?_) (fun cdv A outer s H vs Q E hr h => ?_)
  · obtain ⟨k, rfl, _⟩ := h
    rfl
  obtain ⟨k, rfl, hk, q⟩ := h
  refine ⟨_, (pss_one (ps_ret (pe_ix ix_str pe_str (pe_call G_grab (hr.mono (by decide)) (by rfl) g_grab k_grab b_grab .nil pass0 (pa_cons (pv 0) (pa_cons pe_int pa_nil))) (fun _ _ => rfl)))), ?_⟩
  refine ⟨.ref k, rfl, k, 26, rfl, hk, by decide, by decide, fun G n bt n0 n1 => ?_⟩
  obtain ⟨j, rfl⟩ := Int.eq_ofNat_of_zero_le n0
  have hl : letters.cps.toList.length = 26 := by decide +kernel
  have hj : j < letters.cps.toList.length := by rw [hl]; omega
  exact ⟨letters, _, letters.cps.toList[j], rfl, rfl, by decide +kernel, atI_nat (List.getElem?_eq_getElem hj), q G _ bt (List.getElem_mem hj)⟩
end
theorem pc47 : CPowG 10 47 := ⟨by decide, by decide +kernel⟩
theorem pc13 : CPowG ((10 : Int) ^ (47 : Int).toNat) 13 := ⟨by decide, by decide +kernel⟩
theorem pc18 : CPowG 10 18 := ⟨by decide, by decide +kernel⟩
theorem pc30 : CPowG 10 30 := ⟨by decide, by decide +kernel⟩
theorem big_pos : 0 < ((10 : Int) ^ (47 : Int).toNat) ^ (13 : Int).toNat := by decide +kernel
theorem big_lt : (((10 : Int) ^ (47 : Int).toNat) ^ (13 : Int).toNat).natAbs ≤ 2 ^ 3000 := by decide +kernel
theorem pw18 : 0 ≤ (10 : Int) ^ (18 : Int).toNat := by decide +kernel
theorem fm_lt {x m : Int} {N : Nat} (h : 0 < m) (hN : m.natAbs ≤ N) : (x.fmod m).natAbs < N := by
  have := fm_pos (x := x) h
  omega
theorem cut0 {g c : Int} {N : Nat} (g0 : 0 ≤ g) (hg : g.natAbs < N) (c0 : 0 ≤ c) : 0 ≤ (if g - c > 0 then g - c else 0) ∧ (if g - c > 0 then g - c else 0).natAbs < N := by
  split <;> omega
section
variable {P : Program} {w : World} {K : PySem.W.Frag} {mg : Str → Option Value} {base : Heap}
def spSack (K : PySem.W.Frag) : Sp := fun vs H Q _ => ∃ (a : Addr) (ns : List Int) (j : Nat), vs = [.ref a, .int (j : Int)] ∧ SqL K H a (ns.map V.int) ∧ ∀ p x y z, H p = none → 0 ≤ x → x.natAbs < 2 ^ 3000 → Q (.ref p) (upd H p (.lst [.int x, .int y, .int z]))
theorem ok_sack {f : Addr} {fd : FuncData} (F : Fun K "_law_sack" "_law_sack" s_sack f fd) (B : Blt mg) : FnOk P w K mg base CX0 1 f fd ["_law_script", "_law_at"] (spSack K) := by
  refine F.ok sc_sack (fun vs H Q E h => ?_) (fun cdv A outer s H vs Q E hr h => ?_)
  · obtain ⟨a, ns, j, rfl, _⟩ := h
    rfl
  obtain ⟨a, ns, j, rfl, hS, q⟩ := h
  refine ⟨_, (pss_cons (ps_set (i := 2) sc_sack.nd rfl (.inl rfl) (pe_ifExp (pt_cmpR op_lt (pv 1) (pe_callB call_len_seq (by rfl) B.len_ (by decide +kernel) (pa_cons (pv 0) pa_nil)) (nomark _)) (pe_ix ix_list (pv 0) (pv 1) (fun _ _ => rfl)) (pe_op op_add (pe_op op_mul pe_int (pv 1)) pe_int)))
  (pss_cons (ps_set (i := 3) sc_sack.nd rfl (.inl rfl) (pe_op op_modN (pe_callTy call_int1 (by rfl) B.int_ (by decide +kernel) (pa_cons (pe_callB call_abs (by rfl) B.abs_ (by decide +kernel) (pa_cons (pv 2) pa_nil)) pa_nil)) (pe_op op_powG (pe_op op_powG pe_int pe_int) pe_int)))
  (pss_cons (ps_set (i := 4) sc_sack.nd rfl (.inl rfl) (pe_op op_add (pe_op op_add (pe_op op_add (pe_op op_mul (pe_op op_modN (pe_callTy call_int1 (by rfl) B.int_ (by decide +kernel) (pa_cons (pv 3) pa_nil)) pe_int) pe_int) (pe_op op_mul pe_int (pv 1))) (pe_op op_mul pe_int (pe_callTy call_int1 (by rfl) B.int_ (by decide +kernel) (pa_cons (pe_cmpR op_lt (pv 2) pe_int (nomark _)) pa_nil)))) pe_int))
  (pss_one (ps_ret (pe_lst (pa_cons (pe_callB (call_max2 rfl) (by rfl) B.max_ (by decide +kernel) (pa_cons pe_int (pa_cons (pe_op op_sub (pv 3) (pe_op op_powG pe_int pe_int)) pa_nil))) (pa_cons (pe_op op_modN (pe_callTy call_int1 (by rfl) B.int_ (by decide +kernel) (pa_cons (pv 4) pa_nil)) pe_int) (pa_cons pe_int pa_nil))))))))), ?_⟩
  refine ⟨.int (j : Int), rfl, .ref a, rfl, a, _, rfl, .inl hS, _, _, rfl, rfl, _, rfl, ite2 (fun z => ?c1) (fun z => ?c2)⟩
  case' c1 =>
    have hj : (j : Int) < ((ns.map V.int).length : Nat) := of_decide_eq_true z
    rw [List.length_map] at hj
    have hj : j < ns.length := by omega
    have hat : (ns.map V.int)[j]? = some (.int ns[j]) := by
      rw [List.getElem?_map, List.getElem?_eq_getElem hj]
      rfl
    refine ⟨.ref a, rfl, .int (j : Int), rfl, a, _, _, .int ns[j], rfl, rfl, hS, atI_nat hat, ?_⟩
    generalize ns[j] = cell
  case' c2 =>
    refine ⟨.int (j : Int), rfl, 67, _, rfl, rfl, .inl ⟨by decide, by decide⟩, _, _, rfl, rfl, ?_⟩
    generalize (67 * (j : Int)) = cell0
  all_goals
    refine ⟨_, rfl, _, rfl, .inl ⟨_, rfl, 10, 47, rfl, rfl, pc47, _, 13, rfl, rfl, pc13, _, _, rfl, rfl, Int.ne_of_gt big_pos, ?_⟩⟩
    refine ⟨_, rfl, .inl ⟨_, rfl, _, _, rfl, rfl, (show (2147483237 : Int) ≠ 0 by decide), _, _, rfl, rfl, .inr ⟨(by decide : -(2 ^ 64) < (96293 : Int)), (by decide : (96293 : Int) < 2 ^ 64)⟩, _, rfl, _, _, rfl, rfl, .inl ⟨(by decide : -(2 ^ 64) < (8123 : Int)), (by decide : (8123 : Int) < 2 ^ 64)⟩, _, _, rfl, rfl, ?_⟩⟩
    refine ⟨_, rfl, _, _, rfl, rfl, .inr ⟨_, rfl, _, _, rfl, rfl, .inl ⟨(by decide : -(2 ^ 64) < (47 : Int)), (by decide : (47 : Int) < 2 ^ 64)⟩, _, _, rfl, rfl, _, _, rfl, rfl, ?_⟩⟩
    refine ⟨_, rfl, 10, 18, rfl, rfl, pc18, _, _, rfl, rfl, _, _, rfl, _, rfl, .inl ⟨_, rfl, _, _, rfl, rfl, (show (2305843009213693907 : Int) ≠ 0 by decide), by show 3 ≤ sizeLine; decide, fun p np => ?_⟩⟩
    exact q p _ _ _ np (cut0 (fm_pos big_pos).1 (fm_lt big_pos big_lt) pw18).1 (cut0 (fm_pos big_pos).1 (fm_lt big_pos big_lt) pw18).2
end
end K1

set_option Elab.async false
set_option linter.all false
set_option maxRecDepth 100000
set_option maxHeartbeats 8000000
namespace K1
open PySem PySem.Spec PyProof.Rows L2 Gd Xc
/-! ### the errors of the package -/
def eFld : Nat → Str
  | 5 => "index"
  | 6 => "value"
  | 7 => "name"
  | 8 => "limit"
  | 9 => "many"
  | 10 => "which"
  | _ => "unknown"
abbrev veB : List Value := [.type "ValueError", .type "Exception", .type "BaseException", .type "object"]
/-- of which classes an error is: the first twelve, the base -/
def isE (i j : Nat) : Bool := if j = 12 then decide (i < 6) else decide (i = j)
def bTy : Nat → String
  | 0 => "ValueError"
  | 1 => "LookupError"
  | 2 => "IndexError"
  | 3 => "KeyError"
  | 4 => "ArithmeticError"
  | 5 => "OverflowError"
  | _ => "ZeroDivisionError"
def bSome : Nat → List Nat
  | 6 => [1, 2]
  | 7 => [1, 3]
  | 8 => [4, 5]
  | 9 => [1]
  | 10 => [4]
  | 11 => [4]
  | _ => [0]
structure Errs (P : Program) (w : World) (K : PySem.W.Frag) (mg : Str → Option Value) (base : Heap) (cl fi : Nat → Addr) (fd : Nat → FuncData) : Prop where
  g0 : mg "InvalidName" = some (.ref (cl 0))
  g1 : mg "InvalidBook" = some (.ref (cl 1))
  g2 : mg "InvalidNet" = some (.ref (cl 2))
  g3 : mg "InvalidChooser" = some (.ref (cl 3))
  g4 : mg "InvalidOperation" = some (.ref (cl 4))
  g5 : mg "ParseError" = some (.ref (cl 5))
  g6 : mg "InvalidNumber" = some (.ref (cl 6))
  g7 : mg "UnknownName" = some (.ref (cl 7))
  g8 : mg "TooMany" = some (.ref (cl 8))
  g9 : mg "NothingToUndo" = some (.ref (cl 9))
  g10 : mg "NoChooser" = some (.ref (cl 10))
  g11 : mg "Emptied" = some (.ref (cl 11))
  g12 : mg "ChooserError" = some (.ref (cl 12))
  q : ∀ i, i < 5 → PySem.W.excIn K (cl i) veB "ValueError.__new__" = true
  kp : ∀ i, i < 5 → PySem.W.keepIn K (.ref (cl i)) = true
  sb : ∀ i, i < 5 → PySem.W.subIn K (.ref (cl i)) (.type "BaseException") = some true
  ty : ∀ i, i < 5 → PySem.W.typeIn K (.ref (cl i)) = some (.type "type")
  own : ∀ i, 5 ≤ i → i < 12 → Own K (cl i) (fi i)
  ini : ∀ i, 5 ≤ i → i < 12 → FnOk P w K mg base CX0 1 (fi i) (fd i) ["self", eFld i] (spInit K (eFld i))
  bnd : ∀ i, 5 ≤ i → i < 12 → Binds K (fd i) ["self", eFld i] []
  hno : ∀ i, 5 ≤ i → i < 12 → PySem.W.findIn K (.ref (cl i)) (eFld i) = some none
  exC : ∀ i, i < 12 → ExcC K (cl i)
  xfC : ∀ i, 5 ≤ i → i < 12 → XfC K (cl i)
  kit : ∀ i, i < 12 → ∀ j, j < 13 → PySem.W.kitOne K (.ref (cl i)) (.ref (cl j)) = some (isE i j)
  kitB : ∀ i, i < 12 → ∀ j, j < 7 → PySem.W.kitOne K (.ref (cl i)) (.type (bTy j)) = some (decide (j ∈ bSome i))
  exm : ∀ i, i < 12 → ∀ j, j < 13 → PySem.W.exmOne K (.ref (cl i)) (.ref (cl j)) = some (isE i j)
theorem itY {c : Prop} [Decidable c] {A B : Prop} (h : c) (a : A) : if decide c = true then A else B := by
  rw [if_pos (decide_eq_true h)]
  exact a
theorem itN {c : Prop} [Decidable c] {A B : Prop} (h : ¬ c) (b : B) : if decide c = true then A else B := by
  rw [if_neg (by simpa using h)]
  exact b
theorem twelve {i : Nat} (h : i < 12) : i = 0 ∨ i = 1 ∨ i = 2 ∨ i = 3 ∨ i = 4 ∨ i = 5 ∨ i = 6 ∨ i = 7 ∨ i = 8 ∨ i = 9 ∨ i = 10 ∨ i = 11 := by omega
def fldOf (i : Nat) (v : V) : Option (Str × V) := if i < 5 then none else some (eFld i, v)
theorem held_same {H G : Hp} {a C : Addr} {fl : Option (Str × V)} (h : Held H a C fl) (s : Same H G) : Held G a C fl := by
  cases fl with
  | none => exact s _ _ h
  | some p =>
    obtain ⟨d, e1, e2⟩ := h
    exact ⟨d, s _ _ e1, s _ _ e2⟩
theorem same_two {H : Hp} {a d : Addr} {o u : HO} (na : H a = none) (nd : H d = none) : Same H (upd (upd H d u) a o) := fun b x e => by
  rw [upd_ne (ne_of_none e na), upd_ne (ne_of_none e nd)]
  exact e
section
variable {P : Program} {w : World} {K : PySem.W.Frag} {mg : Str → Option Value} {base : Heap} {cl fi : Nat → Addr} {fd : Nat → FuncData}
def spMade (cl : Nat → Addr) : Sp := fun vs H Q _ => ∃ (i : Nat) (v : V), vs = [.int i, v] ∧ i < 12 ∧ ∀ a G, Same H G → H a = none → Held G a (cl i) (fldOf i v) → Q (.ref a) G
theorem end_plain {H : Hp} {Q : VK} {i : Nat} {v : V} {C : Addr} (h : i < 5) (q : ∀ a G, Same H G → H a = none → Held G a C (fldOf i v) → Q (.ref a) G) : ∀ a, H a = none → Q (.ref a) (upd H a (ExO (.ref C) a)) := fun a na =>
  q a _ (Same.newG na) na (by
    unfold fldOf
    rw [if_pos h]
    exact upd_same)
theorem end_own {H : Hp} {Q : VK} {i : Nat} {v : V} {C : Addr} (h : ¬ i < 5) (q : ∀ a G, Same H G → H a = none → Held G a C (fldOf i v) → Q (.ref a) G) : ∀ a d, H a = none → H d = none → a ≠ d → Q (.ref a) (upd (upd H d (exd d [(eFld i, v)])) a (exo a C (some d))) := fun a d na nd ne =>
  q a _ (same_two na nd) na (by
    unfold fldOf
    rw [if_neg h]
    exact ⟨d, upd_same, by rw [upd_ne (Ne.symm ne), upd_same]⟩)
theorem ok_made_one {f : Addr} {fd' : FuncData} (F : Fun K "_law_made_one" "_law_made_one" s_made_one f fd') (T : Errs P w K mg base cl fi fd) : FnOk P w K mg base CX0 3 f fd' ["_law_lot", "_law_value"] (spMade cl) := by
  refine F.ok sc_made_one (fun vs H Q E h => ?_) (fun cdv A outer s H vs Q E hr h => ?_)
  · obtain ⟨i, v, rfl, _⟩ := h
    rfl
  obtain ⟨i, v, rfl, hi, q⟩ := h
  refine ⟨_, (pss_cons (ps_if (pt_cmpR op_lt (pv 0) pe_int (nomark _)) (pss_one (ps_ret (pe_ifExp (pt_cmpR op_eq (pv 0) pe_int (nomark _)) (pe_exc1 PySem.F.excBase_ValueError (T.q 0 (by decide)) T.g0 (T.kp 0 (by decide)) (by rfl) (pv 1)) (pe_ifExp (pt_cmpR op_eq (pv 0) pe_int (nomark _)) (pe_exc1 PySem.F.excBase_ValueError (T.q 1 (by decide)) T.g1 (T.kp 1 (by decide)) (by rfl) (pv 1)) (pe_exc1 PySem.F.excBase_ValueError (T.q 2 (by decide)) T.g2 (T.kp 2 (by decide)) (by rfl) (pv 1)))))) pss_nil)
  (pss_cons (ps_if (pt_cmpR op_lt (pv 0) pe_int (nomark _)) (pss_one (ps_ret (pe_ifExp (pt_cmpR op_eq (pv 0) pe_int (nomark _)) (pe_exc1 PySem.F.excBase_ValueError (T.q 3 (by decide)) T.g3 (T.kp 3 (by decide)) (by rfl) (pv 1)) (pe_exc1 PySem.F.excBase_ValueError (T.q 4 (by decide)) T.g4 (T.kp 4 (by decide)) (by rfl) (pv 1))))) pss_nil)
  (pss_cons (ps_if (pt_cmpR op_lt (pv 0) pe_int (nomark _)) (pss_one (ps_ret (pe_ifExp (pt_cmpR op_eq (pv 0) pe_int (nomark _)) (pe_own (T.own 5 (by decide) (by decide)) (T.ini 5 (by decide) (by decide)) (T.hno 5 (by decide) (by decide)) (hr.mono (by decide)) (T.bnd 5 (by decide) (by decide)) pass0 (by rfl) T.g5 (pv 1)) (pe_own (T.own 6 (by decide) (by decide)) (T.ini 6 (by decide) (by decide)) (T.hno 6 (by decide) (by decide)) (hr.mono (by decide)) (T.bnd 6 (by decide) (by decide)) pass0 (by rfl) T.g6 (pv 1))))) pss_nil)
  (pss_cons (ps_if (pt_cmpR op_lt (pv 0) pe_int (nomark _)) (pss_one (ps_ret (pe_ifExp (pt_cmpR op_eq (pv 0) pe_int (nomark _)) (pe_own (T.own 7 (by decide) (by decide)) (T.ini 7 (by decide) (by decide)) (T.hno 7 (by decide) (by decide)) (hr.mono (by decide)) (T.bnd 7 (by decide) (by decide)) pass0 (by rfl) T.g7 (pv 1)) (pe_own (T.own 8 (by decide) (by decide)) (T.ini 8 (by decide) (by decide)) (T.hno 8 (by decide) (by decide)) (hr.mono (by decide)) (T.bnd 8 (by decide) (by decide)) pass0 (by rfl) T.g8 (pv 1))))) pss_nil)
  (pss_cons (ps_if (pt_cmpR op_eq (pv 0) pe_int (nomark _)) (pss_one (ps_ret (pe_own (T.own 9 (by decide) (by decide)) (T.ini 9 (by decide) (by decide)) (T.hno 9 (by decide) (by decide)) (hr.mono (by decide)) (T.bnd 9 (by decide) (by decide)) pass0 (by rfl) T.g9 (pv 1)))) pss_nil)
  (pss_one (ps_ret (pe_ifExp (pt_cmpR op_eq (pv 0) pe_int (nomark _)) (pe_own (T.own 10 (by decide) (by decide)) (T.ini 10 (by decide) (by decide)) (T.hno 10 (by decide) (by decide)) (hr.mono (by decide)) (T.bnd 10 (by decide) (by decide)) pass0 (by rfl) T.g10 (pv 1)) (pe_own (T.own 11 (by decide) (by decide)) (T.ini 11 (by decide) (by decide)) (T.hno 11 (by decide) (by decide)) (hr.mono (by decide)) (T.bnd 11 (by decide) (by decide)) pass0 (by rfl) T.g11 (pv 1)))))))))), ?_⟩
  rcases twelve hi with rfl | rfl | rfl | rfl | rfl | rfl | rfl | rfl | rfl | rfl | rfl | rfl
  · exact ⟨_, rfl, _, _, rfl, rfl, _, rfl, itY (by decide) ⟨_, rfl, rfl, _, rfl, itY (by decide) ⟨_, rfl, end_plain (by decide) q⟩⟩⟩
  · exact ⟨_, rfl, _, _, rfl, rfl, _, rfl, itY (by decide) ⟨_, rfl, rfl, _, rfl, itN (by decide) ⟨_, rfl, rfl, _, rfl, itY (by decide) ⟨_, rfl, end_plain (by decide) q⟩⟩⟩⟩
  · exact ⟨_, rfl, _, _, rfl, rfl, _, rfl, itY (by decide) ⟨_, rfl, rfl, _, rfl, itN (by decide) ⟨_, rfl, rfl, _, rfl, itN (by decide) ⟨_, rfl, end_plain (by decide) q⟩⟩⟩⟩
  · exact ⟨_, rfl, _, _, rfl, rfl, _, rfl, itN (by decide) ⟨_, rfl, _, _, rfl, rfl, _, rfl, itY (by decide) ⟨_, rfl, rfl, _, rfl, itY (by decide) ⟨_, rfl, end_plain (by decide) q⟩⟩⟩⟩
  · exact ⟨_, rfl, _, _, rfl, rfl, _, rfl, itN (by decide) ⟨_, rfl, _, _, rfl, rfl, _, rfl, itY (by decide) ⟨_, rfl, rfl, _, rfl, itN (by decide) ⟨_, rfl, end_plain (by decide) q⟩⟩⟩⟩
  · exact ⟨_, rfl, _, _, rfl, rfl, _, rfl, itN (by decide) ⟨_, rfl, _, _, rfl, rfl, _, rfl, itN (by decide) ⟨_, rfl, _, _, rfl, rfl, _, rfl, itY (by decide) ⟨_, rfl, rfl, _, rfl, itY (by decide) ⟨_, rfl, end_own (by decide) q⟩⟩⟩⟩⟩
  · exact ⟨_, rfl, _, _, rfl, rfl, _, rfl, itN (by decide) ⟨_, rfl, _, _, rfl, rfl, _, rfl, itN (by decide) ⟨_, rfl, _, _, rfl, rfl, _, rfl, itY (by decide) ⟨_, rfl, rfl, _, rfl, itN (by decide) ⟨_, rfl, end_own (by decide) q⟩⟩⟩⟩⟩
  · exact ⟨_, rfl, _, _, rfl, rfl, _, rfl, itN (by decide) ⟨_, rfl, _, _, rfl, rfl, _, rfl, itN (by decide) ⟨_, rfl, _, _, rfl, rfl, _, rfl, itN (by decide) ⟨_, rfl, _, _, rfl, rfl, _, rfl, itY (by decide) ⟨_, rfl, rfl, _, rfl, itY (by decide) ⟨_, rfl, end_own (by decide) q⟩⟩⟩⟩⟩⟩
  · exact ⟨_, rfl, _, _, rfl, rfl, _, rfl, itN (by decide) ⟨_, rfl, _, _, rfl, rfl, _, rfl, itN (by decide) ⟨_, rfl, _, _, rfl, rfl, _, rfl, itN (by decide) ⟨_, rfl, _, _, rfl, rfl, _, rfl, itY (by decide) ⟨_, rfl, rfl, _, rfl, itN (by decide) ⟨_, rfl, end_own (by decide) q⟩⟩⟩⟩⟩⟩
  · exact ⟨_, rfl, _, _, rfl, rfl, _, rfl, itN (by decide) ⟨_, rfl, _, _, rfl, rfl, _, rfl, itN (by decide) ⟨_, rfl, _, _, rfl, rfl, _, rfl, itN (by decide) ⟨_, rfl, _, _, rfl, rfl, _, rfl, itN (by decide) ⟨_, rfl, rfl, _, rfl, itY (by decide) ⟨_, rfl, end_own (by decide) q⟩⟩⟩⟩⟩⟩
  · exact ⟨_, rfl, _, _, rfl, rfl, _, rfl, itN (by decide) ⟨_, rfl, _, _, rfl, rfl, _, rfl, itN (by decide) ⟨_, rfl, _, _, rfl, rfl, _, rfl, itN (by decide) ⟨_, rfl, _, _, rfl, rfl, _, rfl, itN (by decide) ⟨_, rfl, rfl, _, rfl, itN (by decide) ⟨_, rfl, rfl, _, rfl, itY (by decide) ⟨_, rfl, end_own (by decide) q⟩⟩⟩⟩⟩⟩⟩
  · exact ⟨_, rfl, _, _, rfl, rfl, _, rfl, itN (by decide) ⟨_, rfl, _, _, rfl, rfl, _, rfl, itN (by decide) ⟨_, rfl, _, _, rfl, rfl, _, rfl, itN (by decide) ⟨_, rfl, _, _, rfl, rfl, _, rfl, itN (by decide) ⟨_, rfl, rfl, _, rfl, itN (by decide) ⟨_, rfl, rfl, _, rfl, itN (by decide) ⟨_, rfl, end_own (by decide) q⟩⟩⟩⟩⟩⟩⟩
def spRaised (cl : Nat → Addr) : Sp := fun vs H _ E => ∃ (i : Nat) (v : V), vs = [.int i, v] ∧ i < 12 ∧ ∀ dd G, Same H G → (i < 5 → dd = none) → E (.ref (cl i)) dd G
theorem ok_raised {f : Addr} {fd' : FuncData} (F : Fun K "_law_raised" "_law_raised" s_raised f fd') (T : Errs P w K mg base cl fi fd) : FnOk P w K mg base (L2.CX P w) 3 f fd' ["_law_lot", "_law_value"] (spRaised cl) := by
  refine F.okX sc_raised (fun vs H Q E h => ?_) (fun cdv A outer s H vs Q E hr h => ?_)
  · obtain ⟨i, v, rfl, _⟩ := h
    rfl
  obtain ⟨i, v, rfl, hi, q⟩ := h
  refine ⟨_, (pss_cons (ps_if (pt_cmpR op_eq (pv 0) pe_int (nomark _)) (pss_one (ps_raise rfl (takes_of rfl rfl rfl rfl) (SkE.pmk_own1 PySem.F.excBase_ValueError (T.q 0 (by decide)) T.g0 (T.kp 0 (by decide)) (raises_own (T.sb 0 (by decide)) (T.ty 0 (by decide))) (by rfl) (pv 1)))) pss_nil)
  (pss_cons (ps_if (pt_cmpR op_eq (pv 0) pe_int (nomark _)) (pss_one (ps_raise rfl (takes_of rfl rfl rfl rfl) (SkE.pmk_own1 PySem.F.excBase_ValueError (T.q 1 (by decide)) T.g1 (T.kp 1 (by decide)) (raises_own (T.sb 1 (by decide)) (T.ty 1 (by decide))) (by rfl) (pv 1)))) pss_nil)
  (pss_cons (ps_if (pt_cmpR op_eq (pv 0) pe_int (nomark _)) (pss_one (ps_raise rfl (takes_of rfl rfl rfl rfl) (SkE.pmk_own1 PySem.F.excBase_ValueError (T.q 2 (by decide)) T.g2 (T.kp 2 (by decide)) (raises_own (T.sb 2 (by decide)) (T.ty 2 (by decide))) (by rfl) (pv 1)))) pss_nil)
  (pss_cons (ps_if (pt_cmpR op_eq (pv 0) pe_int (nomark _)) (pss_one (ps_raise rfl (takes_of rfl rfl rfl rfl) (SkE.pmk_own1 PySem.F.excBase_ValueError (T.q 3 (by decide)) T.g3 (T.kp 3 (by decide)) (raises_own (T.sb 3 (by decide)) (T.ty 3 (by decide))) (by rfl) (pv 1)))) pss_nil)
  (pss_cons (ps_if (pt_cmpR op_eq (pv 0) pe_int (nomark _)) (pss_one (ps_raise rfl (takes_of rfl rfl rfl rfl) (SkE.pmk_own1 PySem.F.excBase_ValueError (T.q 4 (by decide)) T.g4 (T.kp 4 (by decide)) (raises_own (T.sb 4 (by decide)) (T.ty 4 (by decide))) (by rfl) (pv 1)))) pss_nil)
  (pss_cons (ps_if (pt_cmpR op_eq (pv 0) pe_int (nomark _)) (pss_one (ps_raise rfl (takes_of rfl rfl rfl rfl) (pmk_ownI (T.own 5 (by decide) (by decide)) (T.ini 5 (by decide) (by decide)) (T.hno 5 (by decide) (by decide)) (hr.mono (by decide)) (T.bnd 5 (by decide) (by decide)) pass0 (by rfl) T.g5 (pv 1)))) pss_nil)
  (pss_cons (ps_if (pt_cmpR op_eq (pv 0) pe_int (nomark _)) (pss_one (ps_raise rfl (takes_of rfl rfl rfl rfl) (pmk_ownI (T.own 6 (by decide) (by decide)) (T.ini 6 (by decide) (by decide)) (T.hno 6 (by decide) (by decide)) (hr.mono (by decide)) (T.bnd 6 (by decide) (by decide)) pass0 (by rfl) T.g6 (pv 1)))) pss_nil)
  (pss_cons (ps_if (pt_cmpR op_eq (pv 0) pe_int (nomark _)) (pss_one (ps_raise rfl (takes_of rfl rfl rfl rfl) (pmk_ownI (T.own 7 (by decide) (by decide)) (T.ini 7 (by decide) (by decide)) (T.hno 7 (by decide) (by decide)) (hr.mono (by decide)) (T.bnd 7 (by decide) (by decide)) pass0 (by rfl) T.g7 (pv 1)))) pss_nil)
  (pss_cons (ps_if (pt_cmpR op_eq (pv 0) pe_int (nomark _)) (pss_one (ps_raise rfl (takes_of rfl rfl rfl rfl) (pmk_ownI (T.own 8 (by decide) (by decide)) (T.ini 8 (by decide) (by decide)) (T.hno 8 (by decide) (by decide)) (hr.mono (by decide)) (T.bnd 8 (by decide) (by decide)) pass0 (by rfl) T.g8 (pv 1)))) pss_nil)
  (pss_cons (ps_if (pt_cmpR op_eq (pv 0) pe_int (nomark _)) (pss_one (ps_raise rfl (takes_of rfl rfl rfl rfl) (pmk_ownI (T.own 9 (by decide) (by decide)) (T.ini 9 (by decide) (by decide)) (T.hno 9 (by decide) (by decide)) (hr.mono (by decide)) (T.bnd 9 (by decide) (by decide)) pass0 (by rfl) T.g9 (pv 1)))) pss_nil)
  (pss_cons (ps_if (pt_cmpR op_eq (pv 0) pe_int (nomark _)) (pss_one (ps_raise rfl (takes_of rfl rfl rfl rfl) (pmk_ownI (T.own 10 (by decide) (by decide)) (T.ini 10 (by decide) (by decide)) (T.hno 10 (by decide) (by decide)) (hr.mono (by decide)) (T.bnd 10 (by decide) (by decide)) pass0 (by rfl) T.g10 (pv 1)))) pss_nil)
  (pss_one (ps_raise rfl (takes_of rfl rfl rfl rfl) (pmk_ownI (T.own 11 (by decide) (by decide)) (T.ini 11 (by decide) (by decide)) (T.hno 11 (by decide) (by decide)) (hr.mono (by decide)) (T.bnd 11 (by decide) (by decide)) pass0 (by rfl) T.g11 (pv 1))))))))))))))), ?_⟩
  rcases twelve hi with rfl | rfl | rfl | rfl | rfl | rfl | rfl | rfl | rfl | rfl | rfl | rfl
  · exact ⟨_, rfl, rfl, _, rfl, itY (by decide) ⟨_, rfl, q none H (Same.refl H) (fun _ => rfl)⟩⟩
  · exact ⟨_, rfl, rfl, _, rfl, itN (by decide) ⟨_, rfl, rfl, _, rfl, itY (by decide) ⟨_, rfl, q none H (Same.refl H) (fun _ => rfl)⟩⟩⟩
  · exact ⟨_, rfl, rfl, _, rfl, itN (by decide) ⟨_, rfl, rfl, _, rfl, itN (by decide) ⟨_, rfl, rfl, _, rfl, itY (by decide) ⟨_, rfl, q none H (Same.refl H) (fun _ => rfl)⟩⟩⟩⟩
  · exact ⟨_, rfl, rfl, _, rfl, itN (by decide) ⟨_, rfl, rfl, _, rfl, itN (by decide) ⟨_, rfl, rfl, _, rfl, itN (by decide) ⟨_, rfl, rfl, _, rfl, itY (by decide) ⟨_, rfl, q none H (Same.refl H) (fun _ => rfl)⟩⟩⟩⟩⟩
  · exact ⟨_, rfl, rfl, _, rfl, itN (by decide) ⟨_, rfl, rfl, _, rfl, itN (by decide) ⟨_, rfl, rfl, _, rfl, itN (by decide) ⟨_, rfl, rfl, _, rfl, itN (by decide) ⟨_, rfl, rfl, _, rfl, itY (by decide) ⟨_, rfl, q none H (Same.refl H) (fun _ => rfl)⟩⟩⟩⟩⟩⟩
  · exact ⟨_, rfl, rfl, _, rfl, itN (by decide) ⟨_, rfl, rfl, _, rfl, itN (by decide) ⟨_, rfl, rfl, _, rfl, itN (by decide) ⟨_, rfl, rfl, _, rfl, itN (by decide) ⟨_, rfl, rfl, _, rfl, itN (by decide) ⟨_, rfl, rfl, _, rfl, itY (by decide) ⟨_, rfl, fun d nd => q (some d) _ (Same.newG nd) (fun z => absurd z (by decide))⟩⟩⟩⟩⟩⟩⟩
  · exact ⟨_, rfl, rfl, _, rfl, itN (by decide) ⟨_, rfl, rfl, _, rfl, itN (by decide) ⟨_, rfl, rfl, _, rfl, itN (by decide) ⟨_, rfl, rfl, _, rfl, itN (by decide) ⟨_, rfl, rfl, _, rfl, itN (by decide) ⟨_, rfl, rfl, _, rfl, itN (by decide) ⟨_, rfl, rfl, _, rfl, itY (by decide) ⟨_, rfl, fun d nd => q (some d) _ (Same.newG nd) (fun z => absurd z (by decide))⟩⟩⟩⟩⟩⟩⟩⟩
  · exact ⟨_, rfl, rfl, _, rfl, itN (by decide) ⟨_, rfl, rfl, _, rfl, itN (by decide) ⟨_, rfl, rfl, _, rfl, itN (by decide) ⟨_, rfl, rfl, _, rfl, itN (by decide) ⟨_, rfl, rfl, _, rfl, itN (by decide) ⟨_, rfl, rfl, _, rfl, itN (by decide) ⟨_, rfl, rfl, _, rfl, itN (by decide) ⟨_, rfl, rfl, _, rfl, itY (by decide) ⟨_, rfl, fun d nd => q (some d) _ (Same.newG nd) (fun z => absurd z (by decide))⟩⟩⟩⟩⟩⟩⟩⟩⟩
  · exact ⟨_, rfl, rfl, _, rfl, itN (by decide) ⟨_, rfl, rfl, _, rfl, itN (by decide) ⟨_, rfl, rfl, _, rfl, itN (by decide) ⟨_, rfl, rfl, _, rfl, itN (by decide) ⟨_, rfl, rfl, _, rfl, itN (by decide) ⟨_, rfl, rfl, _, rfl, itN (by decide) ⟨_, rfl, rfl, _, rfl, itN (by decide) ⟨_, rfl, rfl, _, rfl, itN (by decide) ⟨_, rfl, rfl, _, rfl, itY (by decide) ⟨_, rfl, fun d nd => q (some d) _ (Same.newG nd) (fun z => absurd z (by decide))⟩⟩⟩⟩⟩⟩⟩⟩⟩⟩
  · exact ⟨_, rfl, rfl, _, rfl, itN (by decide) ⟨_, rfl, rfl, _, rfl, itN (by decide) ⟨_, rfl, rfl, _, rfl, itN (by decide) ⟨_, rfl, rfl, _, rfl, itN (by decide) ⟨_, rfl, rfl, _, rfl, itN (by decide) ⟨_, rfl, rfl, _, rfl, itN (by decide) ⟨_, rfl, rfl, _, rfl, itN (by decide) ⟨_, rfl, rfl, _, rfl, itN (by decide) ⟨_, rfl, rfl, _, rfl, itN (by decide) ⟨_, rfl, rfl, _, rfl, itY (by decide) ⟨_, rfl, fun d nd => q (some d) _ (Same.newG nd) (fun z => absurd z (by decide))⟩⟩⟩⟩⟩⟩⟩⟩⟩⟩⟩
  · exact ⟨_, rfl, rfl, _, rfl, itN (by decide) ⟨_, rfl, rfl, _, rfl, itN (by decide) ⟨_, rfl, rfl, _, rfl, itN (by decide) ⟨_, rfl, rfl, _, rfl, itN (by decide) ⟨_, rfl, rfl, _, rfl, itN (by decide) ⟨_, rfl, rfl, _, rfl, itN (by decide) ⟨_, rfl, rfl, _, rfl, itN (by decide) ⟨_, rfl, rfl, _, rfl, itN (by decide) ⟨_, rfl, rfl, _, rfl, itN (by decide) ⟨_, rfl, rfl, _, rfl, itN (by decide) ⟨_, rfl, rfl, _, rfl, itY (by decide) ⟨_, rfl, fun d nd => q (some d) _ (Same.newG nd) (fun z => absurd z (by decide))⟩⟩⟩⟩⟩⟩⟩⟩⟩⟩⟩⟩
  · exact ⟨_, rfl, rfl, _, rfl, itN (by decide) ⟨_, rfl, rfl, _, rfl, itN (by decide) ⟨_, rfl, rfl, _, rfl, itN (by decide) ⟨_, rfl, rfl, _, rfl, itN (by decide) ⟨_, rfl, rfl, _, rfl, itN (by decide) ⟨_, rfl, rfl, _, rfl, itN (by decide) ⟨_, rfl, rfl, _, rfl, itN (by decide) ⟨_, rfl, rfl, _, rfl, itN (by decide) ⟨_, rfl, rfl, _, rfl, itN (by decide) ⟨_, rfl, rfl, _, rfl, itN (by decide) ⟨_, rfl, rfl, _, rfl, itN (by decide) ⟨_, rfl, fun d nd => q (some d) _ (Same.newG nd) (fun z => absurd z (by decide))⟩⟩⟩⟩⟩⟩⟩⟩⟩⟩⟩⟩
end
end K1

set_option Elab.async false
set_option linter.all false
set_option maxRecDepth 100000
set_option maxHeartbeats 8000000
namespace K1
open PySem PySem.Spec PyProof.Rows L2 Gd Xc
def rowC (i : Nat) : List V := [.bl (isE i 0), .bl (isE i 1), .bl (isE i 2), .bl (isE i 3), .bl (isE i 4), .bl (isE i 5), .bl (isE i 6), .bl (isE i 7), .bl (isE i 8), .bl (isE i 9), .bl (isE i 10), .bl (isE i 11), .bl (isE i 12)]
def rowB (i : Nat) : List V := [.bl (decide (0 ∈ bSome i)), .bl (decide (1 ∈ bSome i)), .bl (decide (2 ∈ bSome i)), .bl (decide (3 ∈ bSome i)), .bl (decide (4 ∈ bSome i)), .bl (decide (5 ∈ bSome i)), .bl (decide (6 ∈ bSome i))]
section
variable {P : Program} {w : World} {K : PySem.W.Frag} {mg : Str → Option Value} {base : Heap} {cl fi : Nat → Addr} {fd : Nat → FuncData}
def spClasses (cl : Nat → Addr) : Sp := fun vs H Q _ => ∃ (i : Nat) (v : V) (a : Addr), vs = [.ref a] ∧ i < 12 ∧ Held H a (cl i) (fldOf i v) ∧ ∀ p G, Same H G → G p = some (.lst (rowC i)) → Q (.ref p) G
theorem ok_classes {f : Addr} {fd' : FuncData} (F : Fun K "_law_classes" "_law_classes" s_classes f fd') (B : Blt mg) (T : Errs P w K mg base cl fi fd) : FnOk P w K mg base CX0 1 f fd' ["_law_error"] (spClasses cl) := by
  refine F.ok sc_classes (fun vs H Q E h => ?_) (fun cdv A outer s H vs Q E hr h => ?_)
  · obtain ⟨i, v, a, rfl, _⟩ := h
    rfl
  obtain ⟨i, v, a, rfl, hi, hh, q⟩ := h
  refine ⟨_, (pss_cons (ps_set (i := 1) sc_classes.nd rfl (.inl rfl) (pe_lst (pa_cons (pe_callB call_isV (by rfl) B.isinstance_ (by decide +kernel) (pa_cons (pv 0) (pa_cons (pe_glob (v := .ref (cl 0)) rfl T.g0 rfl) pa_nil))) (pa_cons (pe_callB call_isV (by rfl) B.isinstance_ (by decide +kernel) (pa_cons (pv 0) (pa_cons (pe_glob (v := .ref (cl 1)) rfl T.g1 rfl) pa_nil))) (pa_cons (pe_callB call_isV (by rfl) B.isinstance_ (by decide +kernel) (pa_cons (pv 0) (pa_cons (pe_glob (v := .ref (cl 2)) rfl T.g2 rfl) pa_nil))) pa_nil)))))
  (pss_cons (ps_set (i := 1) sc_classes.nd rfl (.inl rfl) (pe_op op_cat (pv 1) (pe_lst (pa_cons (pe_callB call_isV (by rfl) B.isinstance_ (by decide +kernel) (pa_cons (pv 0) (pa_cons (pe_glob (v := .ref (cl 3)) rfl T.g3 rfl) pa_nil))) (pa_cons (pe_callB call_isV (by rfl) B.isinstance_ (by decide +kernel) (pa_cons (pv 0) (pa_cons (pe_glob (v := .ref (cl 4)) rfl T.g4 rfl) pa_nil))) pa_nil)))))
  (pss_cons (ps_set (i := 1) sc_classes.nd rfl (.inl rfl) (pe_op op_cat (pv 1) (pe_lst (pa_cons (pe_callB call_isV (by rfl) B.isinstance_ (by decide +kernel) (pa_cons (pv 0) (pa_cons (pe_glob (v := .ref (cl 5)) rfl T.g5 rfl) pa_nil))) (pa_cons (pe_callB call_isV (by rfl) B.isinstance_ (by decide +kernel) (pa_cons (pv 0) (pa_cons (pe_glob (v := .ref (cl 6)) rfl T.g6 rfl) pa_nil))) (pa_cons (pe_callB call_isV (by rfl) B.isinstance_ (by decide +kernel) (pa_cons (pv 0) (pa_cons (pe_glob (v := .ref (cl 7)) rfl T.g7 rfl) pa_nil))) pa_nil))))))
  (pss_cons (ps_set (i := 1) sc_classes.nd rfl (.inl rfl) (pe_op op_cat (pv 1) (pe_lst (pa_cons (pe_callB call_isV (by rfl) B.isinstance_ (by decide +kernel) (pa_cons (pv 0) (pa_cons (pe_glob (v := .ref (cl 8)) rfl T.g8 rfl) pa_nil))) (pa_cons (pe_callB call_isV (by rfl) B.isinstance_ (by decide +kernel) (pa_cons (pv 0) (pa_cons (pe_glob (v := .ref (cl 9)) rfl T.g9 rfl) pa_nil))) (pa_cons (pe_callB call_isV (by rfl) B.isinstance_ (by decide +kernel) (pa_cons (pv 0) (pa_cons (pe_glob (v := .ref (cl 10)) rfl T.g10 rfl) pa_nil))) pa_nil))))))
  (pss_one (ps_ret (pe_op op_cat (pv 1) (pe_lst (pa_cons (pe_callB call_isV (by rfl) B.isinstance_ (by decide +kernel) (pa_cons (pv 0) (pa_cons (pe_glob (v := .ref (cl 11)) rfl T.g11 rfl) pa_nil))) (pa_cons (pe_callB call_isV (by rfl) B.isinstance_ (by decide +kernel) (pa_cons (pv 0) (pa_cons (pe_glob (v := .ref (cl 12)) rfl T.g12 rfl) pa_nil))) pa_nil)))))))))), ?_⟩
  refine ⟨.ref a, rfl, a, cl i, fldOf i v, .ref (cl 0), .ref (cl 0), isE i 0, rfl, held_same hh (Same.refl H), T.exC i hi, .own _, T.kit i hi 0 (by decide), .ref a, rfl, a, cl i, fldOf i v, .ref (cl 1), .ref (cl 1), isE i 1, rfl, held_same hh (Same.refl H), T.exC i hi, .own _, T.kit i hi 1 (by decide), .ref a, rfl, a, cl i, fldOf i v, .ref (cl 2), .ref (cl 2), isE i 2, rfl, held_same hh (Same.refl H), T.exC i hi, .own _, T.kit i hi 2 (by decide), by show 3 ≤ sizeLine; decide, fun p1 n1 => ?_⟩
  have s1 : Same H (upd H p1 (.lst [.bl (isE i 0), .bl (isE i 1), .bl (isE i 2)])) := Same.newG n1
  have e1 : (upd H p1 (.lst [.bl (isE i 0), .bl (isE i 1), .bl (isE i 2)])) p1 = some (.lst [.bl (isE i 0), .bl (isE i 1), .bl (isE i 2)]) := upd_same
  generalize upd H p1 (.lst [.bl (isE i 0), .bl (isE i 1), .bl (isE i 2)]) = H1 at s1 e1 ⊢
  refine ⟨.ref p1, rfl, .ref a, rfl, a, cl i, fldOf i v, .ref (cl 3), .ref (cl 3), isE i 3, rfl, held_same hh s1, T.exC i hi, .own _, T.kit i hi 3 (by decide), .ref a, rfl, a, cl i, fldOf i v, .ref (cl 4), .ref (cl 4), isE i 4, rfl, held_same hh s1, T.exC i hi, .own _, T.kit i hi 4 (by decide), by show 2 ≤ sizeLine; decide, fun r1 m1 => ⟨p1, r1, [.bl (isE i 0), .bl (isE i 1), .bl (isE i 2)], [.bl (isE i 3), .bl (isE i 4)], rfl, rfl, by rw [upd_ne (ne_of_none e1 m1)]; exact e1, upd_same, by show 5 ≤ sizeLine; decide, fun p2 n2 => ?_⟩⟩
  have s2 : Same H (upd (upd H1 r1 (.lst [.bl (isE i 3), .bl (isE i 4)])) p2 (.lst ([.bl (isE i 0), .bl (isE i 1), .bl (isE i 2)] ++ [.bl (isE i 3), .bl (isE i 4)]))) := (s1.trans (Same.newG m1)).trans (Same.newG n2)
  have e2 : (upd (upd H1 r1 (.lst [.bl (isE i 3), .bl (isE i 4)])) p2 (.lst ([.bl (isE i 0), .bl (isE i 1), .bl (isE i 2)] ++ [.bl (isE i 3), .bl (isE i 4)]))) p2 = some (.lst [.bl (isE i 0), .bl (isE i 1), .bl (isE i 2), .bl (isE i 3), .bl (isE i 4)]) := upd_same
  generalize upd (upd H1 r1 (.lst [.bl (isE i 3), .bl (isE i 4)])) p2 (.lst ([.bl (isE i 0), .bl (isE i 1), .bl (isE i 2)] ++ [.bl (isE i 3), .bl (isE i 4)])) = H2 at s2 e2 ⊢
  refine ⟨.ref p2, rfl, .ref a, rfl, a, cl i, fldOf i v, .ref (cl 5), .ref (cl 5), isE i 5, rfl, held_same hh s2, T.exC i hi, .own _, T.kit i hi 5 (by decide), .ref a, rfl, a, cl i, fldOf i v, .ref (cl 6), .ref (cl 6), isE i 6, rfl, held_same hh s2, T.exC i hi, .own _, T.kit i hi 6 (by decide), .ref a, rfl, a, cl i, fldOf i v, .ref (cl 7), .ref (cl 7), isE i 7, rfl, held_same hh s2, T.exC i hi, .own _, T.kit i hi 7 (by decide), by show 3 ≤ sizeLine; decide, fun r2 m2 => ⟨p2, r2, [.bl (isE i 0), .bl (isE i 1), .bl (isE i 2), .bl (isE i 3), .bl (isE i 4)], [.bl (isE i 5), .bl (isE i 6), .bl (isE i 7)], rfl, rfl, by rw [upd_ne (ne_of_none e2 m2)]; exact e2, upd_same, by show 8 ≤ sizeLine; decide, fun p3 n3 => ?_⟩⟩
  have s3 : Same H (upd (upd H2 r2 (.lst [.bl (isE i 5), .bl (isE i 6), .bl (isE i 7)])) p3 (.lst ([.bl (isE i 0), .bl (isE i 1), .bl (isE i 2), .bl (isE i 3), .bl (isE i 4)] ++ [.bl (isE i 5), .bl (isE i 6), .bl (isE i 7)]))) := (s2.trans (Same.newG m2)).trans (Same.newG n3)
  have e3 : (upd (upd H2 r2 (.lst [.bl (isE i 5), .bl (isE i 6), .bl (isE i 7)])) p3 (.lst ([.bl (isE i 0), .bl (isE i 1), .bl (isE i 2), .bl (isE i 3), .bl (isE i 4)] ++ [.bl (isE i 5), .bl (isE i 6), .bl (isE i 7)]))) p3 = some (.lst [.bl (isE i 0), .bl (isE i 1), .bl (isE i 2), .bl (isE i 3), .bl (isE i 4), .bl (isE i 5), .bl (isE i 6), .bl (isE i 7)]) := upd_same
  generalize upd (upd H2 r2 (.lst [.bl (isE i 5), .bl (isE i 6), .bl (isE i 7)])) p3 (.lst ([.bl (isE i 0), .bl (isE i 1), .bl (isE i 2), .bl (isE i 3), .bl (isE i 4)] ++ [.bl (isE i 5), .bl (isE i 6), .bl (isE i 7)])) = H3 at s3 e3 ⊢
  refine ⟨.ref p3, rfl, .ref a, rfl, a, cl i, fldOf i v, .ref (cl 8), .ref (cl 8), isE i 8, rfl, held_same hh s3, T.exC i hi, .own _, T.kit i hi 8 (by decide), .ref a, rfl, a, cl i, fldOf i v, .ref (cl 9), .ref (cl 9), isE i 9, rfl, held_same hh s3, T.exC i hi, .own _, T.kit i hi 9 (by decide), .ref a, rfl, a, cl i, fldOf i v, .ref (cl 10), .ref (cl 10), isE i 10, rfl, held_same hh s3, T.exC i hi, .own _, T.kit i hi 10 (by decide), by show 3 ≤ sizeLine; decide, fun r3 m3 => ⟨p3, r3, [.bl (isE i 0), .bl (isE i 1), .bl (isE i 2), .bl (isE i 3), .bl (isE i 4), .bl (isE i 5), .bl (isE i 6), .bl (isE i 7)], [.bl (isE i 8), .bl (isE i 9), .bl (isE i 10)], rfl, rfl, by rw [upd_ne (ne_of_none e3 m3)]; exact e3, upd_same, by show 11 ≤ sizeLine; decide, fun p4 n4 => ?_⟩⟩
  have s4 : Same H (upd (upd H3 r3 (.lst [.bl (isE i 8), .bl (isE i 9), .bl (isE i 10)])) p4 (.lst ([.bl (isE i 0), .bl (isE i 1), .bl (isE i 2), .bl (isE i 3), .bl (isE i 4), .bl (isE i 5), .bl (isE i 6), .bl (isE i 7)] ++ [.bl (isE i 8), .bl (isE i 9), .bl (isE i 10)]))) := (s3.trans (Same.newG m3)).trans (Same.newG n4)
  have e4 : (upd (upd H3 r3 (.lst [.bl (isE i 8), .bl (isE i 9), .bl (isE i 10)])) p4 (.lst ([.bl (isE i 0), .bl (isE i 1), .bl (isE i 2), .bl (isE i 3), .bl (isE i 4), .bl (isE i 5), .bl (isE i 6), .bl (isE i 7)] ++ [.bl (isE i 8), .bl (isE i 9), .bl (isE i 10)]))) p4 = some (.lst [.bl (isE i 0), .bl (isE i 1), .bl (isE i 2), .bl (isE i 3), .bl (isE i 4), .bl (isE i 5), .bl (isE i 6), .bl (isE i 7), .bl (isE i 8), .bl (isE i 9), .bl (isE i 10)]) := upd_same
  generalize upd (upd H3 r3 (.lst [.bl (isE i 8), .bl (isE i 9), .bl (isE i 10)])) p4 (.lst ([.bl (isE i 0), .bl (isE i 1), .bl (isE i 2), .bl (isE i 3), .bl (isE i 4), .bl (isE i 5), .bl (isE i 6), .bl (isE i 7)] ++ [.bl (isE i 8), .bl (isE i 9), .bl (isE i 10)])) = H4 at s4 e4 ⊢
  refine ⟨.ref p4, rfl, .ref a, rfl, a, cl i, fldOf i v, .ref (cl 11), .ref (cl 11), isE i 11, rfl, held_same hh s4, T.exC i hi, .own _, T.kit i hi 11 (by decide), .ref a, rfl, a, cl i, fldOf i v, .ref (cl 12), .ref (cl 12), isE i 12, rfl, held_same hh s4, T.exC i hi, .own _, T.kit i hi 12 (by decide), by show 2 ≤ sizeLine; decide, fun r4 m4 => ⟨p4, r4, [.bl (isE i 0), .bl (isE i 1), .bl (isE i 2), .bl (isE i 3), .bl (isE i 4), .bl (isE i 5), .bl (isE i 6), .bl (isE i 7), .bl (isE i 8), .bl (isE i 9), .bl (isE i 10)], [.bl (isE i 11), .bl (isE i 12)], rfl, rfl, by rw [upd_ne (ne_of_none e4 m4)]; exact e4, upd_same, by show 13 ≤ sizeLine; decide, fun p5 n5 => ?_⟩⟩
  have s5 : Same H (upd (upd H4 r4 (.lst [.bl (isE i 11), .bl (isE i 12)])) p5 (.lst ([.bl (isE i 0), .bl (isE i 1), .bl (isE i 2), .bl (isE i 3), .bl (isE i 4), .bl (isE i 5), .bl (isE i 6), .bl (isE i 7), .bl (isE i 8), .bl (isE i 9), .bl (isE i 10)] ++ [.bl (isE i 11), .bl (isE i 12)]))) := (s4.trans (Same.newG m4)).trans (Same.newG n5)
  have e5 : (upd (upd H4 r4 (.lst [.bl (isE i 11), .bl (isE i 12)])) p5 (.lst ([.bl (isE i 0), .bl (isE i 1), .bl (isE i 2), .bl (isE i 3), .bl (isE i 4), .bl (isE i 5), .bl (isE i 6), .bl (isE i 7), .bl (isE i 8), .bl (isE i 9), .bl (isE i 10)] ++ [.bl (isE i 11), .bl (isE i 12)]))) p5 = some (.lst [.bl (isE i 0), .bl (isE i 1), .bl (isE i 2), .bl (isE i 3), .bl (isE i 4), .bl (isE i 5), .bl (isE i 6), .bl (isE i 7), .bl (isE i 8), .bl (isE i 9), .bl (isE i 10), .bl (isE i 11), .bl (isE i 12)]) := upd_same
  generalize upd (upd H4 r4 (.lst [.bl (isE i 11), .bl (isE i 12)])) p5 (.lst ([.bl (isE i 0), .bl (isE i 1), .bl (isE i 2), .bl (isE i 3), .bl (isE i 4), .bl (isE i 5), .bl (isE i 6), .bl (isE i 7), .bl (isE i 8), .bl (isE i 9), .bl (isE i 10)] ++ [.bl (isE i 11), .bl (isE i 12)])) = H5 at s5 e5 ⊢
  exact q _ _ s5 e5
def spBases (cl : Nat → Addr) : Sp := fun vs H Q _ => ∃ (i : Nat) (v : V) (a : Addr), vs = [.ref a] ∧ i < 12 ∧ Held H a (cl i) (fldOf i v) ∧ ∀ p G, Same H G → G p = some (.lst (rowB i)) → Q (.ref p) G
theorem ok_bases {f : Addr} {fd' : FuncData} (F : Fun K "_law_bases" "_law_bases" s_bases f fd') (B : Blt mg) (T : Errs P w K mg base cl fi fd) : FnOk P w K mg base CX0 1 f fd' ["_law_error"] (spBases cl) := by
  refine F.ok sc_bases (fun vs H Q E h => ?_) (fun cdv A outer s H vs Q E hr h => ?_)
  · obtain ⟨i, v, a, rfl, _⟩ := h
    rfl
  obtain ⟨i, v, a, rfl, hi, hh, q⟩ := h
  refine ⟨_, (pss_cons (ps_set (i := 1) sc_bases.nd rfl (.inl rfl) (pe_lst (pa_cons (pe_callB call_isV (by rfl) B.isinstance_ (by decide +kernel) (pa_cons (pv 0) (pa_cons (pe_bltn (v := .ty "ValueError") rfl B.ValueError_ (by decide +kernel) rfl) pa_nil))) (pa_cons (pe_callB call_isV (by rfl) B.isinstance_ (by decide +kernel) (pa_cons (pv 0) (pa_cons (pe_bltn (v := .ty "LookupError") rfl B.LookupError_ (by decide +kernel) rfl) pa_nil))) (pa_cons (pe_callB call_isV (by rfl) B.isinstance_ (by decide +kernel) (pa_cons (pv 0) (pa_cons (pe_bltn (v := .ty "IndexError") rfl B.IndexError_ (by decide +kernel) rfl) pa_nil))) pa_nil)))))
  (pss_cons (ps_set (i := 1) sc_bases.nd rfl (.inl rfl) (pe_op op_cat (pv 1) (pe_lst (pa_cons (pe_callB call_isV (by rfl) B.isinstance_ (by decide +kernel) (pa_cons (pv 0) (pa_cons (pe_bltn (v := .ty "KeyError") rfl B.KeyError_ (by decide +kernel) rfl) pa_nil))) (pa_cons (pe_callB call_isV (by rfl) B.isinstance_ (by decide +kernel) (pa_cons (pv 0) (pa_cons (pe_bltn (v := .ty "ArithmeticError") rfl B.ArithmeticError_ (by decide +kernel) rfl) pa_nil))) (pa_cons (pe_callB call_isV (by rfl) B.isinstance_ (by decide +kernel) (pa_cons (pv 0) (pa_cons (pe_bltn (v := .ty "OverflowError") rfl B.OverflowError_ (by decide +kernel) rfl) pa_nil))) pa_nil))))))
  (pss_one (ps_ret (pe_op op_cat (pv 1) (pe_lst (pa_cons (pe_callB call_isV (by rfl) B.isinstance_ (by decide +kernel) (pa_cons (pv 0) (pa_cons (pe_bltn (v := .ty "ZeroDivisionError") rfl B.ZeroDivisionError_ (by decide +kernel) rfl) pa_nil))) pa_nil))))))), ?_⟩
  refine ⟨.ref a, rfl, a, cl i, fldOf i v, .ty (bTy 0), .type (bTy 0), decide (0 ∈ bSome i), rfl, held_same hh (Same.refl H), T.exC i hi, .ty _, T.kitB i hi 0 (by decide), .ref a, rfl, a, cl i, fldOf i v, .ty (bTy 1), .type (bTy 1), decide (1 ∈ bSome i), rfl, held_same hh (Same.refl H), T.exC i hi, .ty _, T.kitB i hi 1 (by decide), .ref a, rfl, a, cl i, fldOf i v, .ty (bTy 2), .type (bTy 2), decide (2 ∈ bSome i), rfl, held_same hh (Same.refl H), T.exC i hi, .ty _, T.kitB i hi 2 (by decide), by show 3 ≤ sizeLine; decide, fun p1 n1 => ?_⟩
  have s1 : Same H (upd H p1 (.lst [.bl (decide (0 ∈ bSome i)), .bl (decide (1 ∈ bSome i)), .bl (decide (2 ∈ bSome i))])) := Same.newG n1
  have e1 : (upd H p1 (.lst [.bl (decide (0 ∈ bSome i)), .bl (decide (1 ∈ bSome i)), .bl (decide (2 ∈ bSome i))])) p1 = some (.lst [.bl (decide (0 ∈ bSome i)), .bl (decide (1 ∈ bSome i)), .bl (decide (2 ∈ bSome i))]) := upd_same
  generalize upd H p1 (.lst [.bl (decide (0 ∈ bSome i)), .bl (decide (1 ∈ bSome i)), .bl (decide (2 ∈ bSome i))]) = H1 at s1 e1 ⊢
  refine ⟨.ref p1, rfl, .ref a, rfl, a, cl i, fldOf i v, .ty (bTy 3), .type (bTy 3), decide (3 ∈ bSome i), rfl, held_same hh s1, T.exC i hi, .ty _, T.kitB i hi 3 (by decide), .ref a, rfl, a, cl i, fldOf i v, .ty (bTy 4), .type (bTy 4), decide (4 ∈ bSome i), rfl, held_same hh s1, T.exC i hi, .ty _, T.kitB i hi 4 (by decide), .ref a, rfl, a, cl i, fldOf i v, .ty (bTy 5), .type (bTy 5), decide (5 ∈ bSome i), rfl, held_same hh s1, T.exC i hi, .ty _, T.kitB i hi 5 (by decide), by show 3 ≤ sizeLine; decide, fun r1 m1 => ⟨p1, r1, [.bl (decide (0 ∈ bSome i)), .bl (decide (1 ∈ bSome i)), .bl (decide (2 ∈ bSome i))], [.bl (decide (3 ∈ bSome i)), .bl (decide (4 ∈ bSome i)), .bl (decide (5 ∈ bSome i))], rfl, rfl, by rw [upd_ne (ne_of_none e1 m1)]; exact e1, upd_same, by show 6 ≤ sizeLine; decide, fun p2 n2 => ?_⟩⟩
  have s2 : Same H (upd (upd H1 r1 (.lst [.bl (decide (3 ∈ bSome i)), .bl (decide (4 ∈ bSome i)), .bl (decide (5 ∈ bSome i))])) p2 (.lst ([.bl (decide (0 ∈ bSome i)), .bl (decide (1 ∈ bSome i)), .bl (decide (2 ∈ bSome i))] ++ [.bl (decide (3 ∈ bSome i)), .bl (decide (4 ∈ bSome i)), .bl (decide (5 ∈ bSome i))]))) := (s1.trans (Same.newG m1)).trans (Same.newG n2)
  have e2 : (upd (upd H1 r1 (.lst [.bl (decide (3 ∈ bSome i)), .bl (decide (4 ∈ bSome i)), .bl (decide (5 ∈ bSome i))])) p2 (.lst ([.bl (decide (0 ∈ bSome i)), .bl (decide (1 ∈ bSome i)), .bl (decide (2 ∈ bSome i))] ++ [.bl (decide (3 ∈ bSome i)), .bl (decide (4 ∈ bSome i)), .bl (decide (5 ∈ bSome i))]))) p2 = some (.lst [.bl (decide (0 ∈ bSome i)), .bl (decide (1 ∈ bSome i)), .bl (decide (2 ∈ bSome i)), .bl (decide (3 ∈ bSome i)), .bl (decide (4 ∈ bSome i)), .bl (decide (5 ∈ bSome i))]) := upd_same
  generalize upd (upd H1 r1 (.lst [.bl (decide (3 ∈ bSome i)), .bl (decide (4 ∈ bSome i)), .bl (decide (5 ∈ bSome i))])) p2 (.lst ([.bl (decide (0 ∈ bSome i)), .bl (decide (1 ∈ bSome i)), .bl (decide (2 ∈ bSome i))] ++ [.bl (decide (3 ∈ bSome i)), .bl (decide (4 ∈ bSome i)), .bl (decide (5 ∈ bSome i))])) = H2 at s2 e2 ⊢
  refine ⟨.ref p2, rfl, .ref a, rfl, a, cl i, fldOf i v, .ty (bTy 6), .type (bTy 6), decide (6 ∈ bSome i), rfl, held_same hh s2, T.exC i hi, .ty _, T.kitB i hi 6 (by decide), by show 1 ≤ sizeLine; decide, fun r2 m2 => ⟨p2, r2, [.bl (decide (0 ∈ bSome i)), .bl (decide (1 ∈ bSome i)), .bl (decide (2 ∈ bSome i)), .bl (decide (3 ∈ bSome i)), .bl (decide (4 ∈ bSome i)), .bl (decide (5 ∈ bSome i))], [.bl (decide (6 ∈ bSome i))], rfl, rfl, by rw [upd_ne (ne_of_none e2 m2)]; exact e2, upd_same, by show 7 ≤ sizeLine; decide, fun p3 n3 => ?_⟩⟩
  have s3 : Same H (upd (upd H2 r2 (.lst [.bl (decide (6 ∈ bSome i))])) p3 (.lst ([.bl (decide (0 ∈ bSome i)), .bl (decide (1 ∈ bSome i)), .bl (decide (2 ∈ bSome i)), .bl (decide (3 ∈ bSome i)), .bl (decide (4 ∈ bSome i)), .bl (decide (5 ∈ bSome i))] ++ [.bl (decide (6 ∈ bSome i))]))) := (s2.trans (Same.newG m2)).trans (Same.newG n3)
  have e3 : (upd (upd H2 r2 (.lst [.bl (decide (6 ∈ bSome i))])) p3 (.lst ([.bl (decide (0 ∈ bSome i)), .bl (decide (1 ∈ bSome i)), .bl (decide (2 ∈ bSome i)), .bl (decide (3 ∈ bSome i)), .bl (decide (4 ∈ bSome i)), .bl (decide (5 ∈ bSome i))] ++ [.bl (decide (6 ∈ bSome i))]))) p3 = some (.lst [.bl (decide (0 ∈ bSome i)), .bl (decide (1 ∈ bSome i)), .bl (decide (2 ∈ bSome i)), .bl (decide (3 ∈ bSome i)), .bl (decide (4 ∈ bSome i)), .bl (decide (5 ∈ bSome i)), .bl (decide (6 ∈ bSome i))]) := upd_same
  generalize upd (upd H2 r2 (.lst [.bl (decide (6 ∈ bSome i))])) p3 (.lst ([.bl (decide (0 ∈ bSome i)), .bl (decide (1 ∈ bSome i)), .bl (decide (2 ∈ bSome i)), .bl (decide (3 ∈ bSome i)), .bl (decide (4 ∈ bSome i)), .bl (decide (5 ∈ bSome i))] ++ [.bl (decide (6 ∈ bSome i))])) = H3 at s3 e3 ⊢
  exact q _ _ s3 e3
end
end K1

set_option Elab.async false
set_option linter.all false
set_option maxRecDepth 100000
set_option maxHeartbeats 8000000
namespace K1
open PySem PySem.Spec PyProof.Rows L2 Gd Xc
structure Strs (P : Program) (w : World) (K : PySem.W.Frag) (mg : Str → Option Value) (base : Heap) (cl si : Nat → Addr) (sd : Nat → FuncData) : Prop where
  fs : ∀ i, i = 6 ∨ i = 7 → PySem.W.findIn K (.ref (cl i)) "__str__" = some (some (.ref (si i)))
  isF : ∀ i, i = 6 ∨ i = 7 → PySem.W.isFn K (.ref (si i)) = true
  ok : ∀ i, i = 6 ∨ i = 7 → FnG P w K mg base CX0 1 (si i) (sd i) ["self"] (spStr K (eFld i))
  bnd : ∀ i, i = 6 ∨ i = 7 → Binds K (sd i) ["self"] []
theorem end_eq {Q : VK} {z : Str} {H : Hp} (q : Q (.bl true) H) : Q (.bl (decide (V.str z = V.str z))) H := by
  rw [decide_eq_true rfl]
  exact q
theorem itT {c : Prop} [Decidable c] {Q : VK} {H : Hp} {B : Prop} (h : ¬ c) (q : Q (.bl true) H) : if (!decide c) = true then Q (.bl true) H else B := by
  rw [decide_eq_false h]
  exact iteT q
theorem itF {c : Prop} [Decidable c] {A B : Prop} (h : c) (b : B) : if (!decide c) = true then A else B := by
  rw [decide_eq_true h]
  exact iteF b
section
variable {P : Program} {w : World} {K : PySem.W.Frag} {mg : Str → Option Value} {base : Heap} {cl fi si : Nat → Addr} {fd sd : Nat → FuncData}
def spKept (K : PySem.W.Frag) (cl : Nat → Addr) : Sp := fun vs H Q _ => ∃ (i : Nat) (v : V) (a : Addr), vs = [.int i, .ref a, v] ∧ i < 12 ∧ Held H a (cl i) (fldOf i v) ∧ (∃ z, Sh K H v z) ∧ Q (.bl true) H
theorem ok_is_kept {f : Addr} {fd' : FuncData} (F : Fun K "_law_is_kept" "_law_is_kept" s_is_kept f fd') (B : Blt mg) (T : Errs P w K mg base cl fi fd) (S : Strs P w K mg base cl si sd) : FnG P w K mg base CX0 4 f fd' ["_law_lot", "_law_error", "_law_value"] (spKept K cl) := by
  refine def_ok F sc_is_kept (fun vs H Q E h => ?_) (fun cdv A outer s H vs Q E hr hgd0 h => ?_)
  · obtain ⟨i, v, a, rfl, _⟩ := h
    rfl
  obtain ⟨i, v, a, rfl, hi, hh, ⟨z, hz⟩, q⟩ := h
  have hgd : (A.deeper (envOfC "_law_is_kept" (defScope s_is_kept) s.heap.objs.size f cdv)).guards = some [] := hgd0
  refine ⟨_, (pss_cons (ps_if (pt_cmpR op_eq (pv 0) pe_int (nomark _)) (pss_one (ps_ret (pe_cmpR op_eq (pe_callB (call_sh hgd hr.units) (by rfl) B.repr_ (by decide +kernel) (pa_cons (pe_xv (pv 1)) pa_nil)) (pe_callB (call_sh hgd hr.units) (by rfl) B.repr_ (by decide +kernel) (pa_cons (pv 2) pa_nil)) (nomark _)))) pss_nil)
  (pss_cons (ps_if (pt_cmpR op_eq (pv 0) pe_int (nomark _)) (pss_one (ps_ret (pe_and (pe_cmpR op_eq (pe_callB (call_sh hgd hr.units) (by rfl) B.repr_ (by decide +kernel) (pa_cons (pe_xv (pv 1)) pa_nil)) (pe_callB (call_sh hgd hr.units) (by rfl) B.repr_ (by decide +kernel) (pa_cons (pv 2) pa_nil)) (nomark _)) (pe_one (pe_cmpR op_eq (pe_callTy (call_str (S.ok 6 (.inl rfl)) hr hgd (S.isF 6 (.inl rfl)) (S.bnd 6 (.inl rfl)) pass0) (by rfl) B.str_ (by decide +kernel) (pa_cons (pv 1) pa_nil)) (pe_callB (call_sh hgd hr.units) (by rfl) B.repr_ (by decide +kernel) (pa_cons (pv 2) pa_nil)) (nomark _)))))) pss_nil)
  (pss_cons (ps_if (pt_cmpR op_eq (pv 0) pe_int (nomark _)) (pss_one (ps_ret (pe_and (pe_cmpR op_eq (pe_callB (call_sh hgd hr.units) (by rfl) B.repr_ (by decide +kernel) (pa_cons (pe_xv (pv 1)) pa_nil)) (pe_callB (call_sh hgd hr.units) (by rfl) B.repr_ (by decide +kernel) (pa_cons (pv 2) pa_nil)) (nomark _)) (pe_one (pe_cmpR op_eq (pe_callTy (call_str (S.ok 7 (.inr rfl)) hr hgd (S.isF 7 (.inr rfl)) (S.bnd 7 (.inr rfl)) pass0) (by rfl) B.str_ (by decide +kernel) (pa_cons (pv 1) pa_nil)) (pe_callB (call_sh hgd hr.units) (by rfl) B.repr_ (by decide +kernel) (pa_cons (pv 2) pa_nil)) (nomark _)))))) pss_nil)
  (pss_cons (ps_if (pt_cmpR op_eq (pv 0) pe_int (nomark _)) (pss_one (ps_ret (pe_cmpR op_eq (pe_callB (call_sh hgd hr.units) (by rfl) B.repr_ (by decide +kernel) (pa_cons (pe_xv (pv 1)) pa_nil)) (pe_callB (call_sh hgd hr.units) (by rfl) B.repr_ (by decide +kernel) (pa_cons (pv 2) pa_nil)) (nomark _)))) pss_nil)
  (pss_cons (ps_if (pt_cmpR op_eq (pv 0) pe_int (nomark _)) (pss_one (ps_ret (pe_cmpR op_eq (pe_callB (call_sh hgd hr.units) (by rfl) B.repr_ (by decide +kernel) (pa_cons (pe_xv (pv 1)) pa_nil)) (pe_callB (call_sh hgd hr.units) (by rfl) B.repr_ (by decide +kernel) (pa_cons (pv 2) pa_nil)) (nomark _)))) pss_nil)
  (pss_cons (ps_if (pt_cmpR op_eq (pv 0) pe_int (nomark _)) (pss_one (ps_ret (pe_cmpR op_eq (pe_callB (call_sh hgd hr.units) (by rfl) B.repr_ (by decide +kernel) (pa_cons (pe_xv (pv 1)) pa_nil)) (pe_callB (call_sh hgd hr.units) (by rfl) B.repr_ (by decide +kernel) (pa_cons (pv 2) pa_nil)) (nomark _)))) pss_nil)
  (pss_one (ps_ret (pe_or (pe_cmpR op_ne (pv 0) pe_int (nomark _)) (pe_one (pe_cmpR op_eq (pe_callB (call_sh hgd hr.units) (by rfl) B.repr_ (by decide +kernel) (pa_cons (pe_xv (pv 1)) pa_nil)) (pe_callB (call_sh hgd hr.units) (by rfl) B.repr_ (by decide +kernel) (pa_cons (pv 2) pa_nil)) (nomark _)))))))))))), ?_⟩
  rcases twelve hi with rfl | rfl | rfl | rfl | rfl | rfl | rfl | rfl | rfl | rfl | rfl | rfl
  · exact ⟨_, rfl, rfl, _, rfl, itN (by decide) ⟨_, rfl, rfl, _, rfl, itN (by decide) ⟨_, rfl, rfl, _, rfl, itN (by decide) ⟨_, rfl, rfl, _, rfl, itN (by decide) ⟨_, rfl, rfl, _, rfl, itN (by decide) ⟨_, rfl, rfl, _, rfl, itN (by decide) ⟨_, rfl, rfl, _, rfl, itT (by decide) q⟩⟩⟩⟩⟩⟩⟩
  · exact ⟨_, rfl, rfl, _, rfl, itN (by decide) ⟨_, rfl, rfl, _, rfl, itN (by decide) ⟨_, rfl, rfl, _, rfl, itN (by decide) ⟨_, rfl, rfl, _, rfl, itN (by decide) ⟨_, rfl, rfl, _, rfl, itN (by decide) ⟨_, rfl, rfl, _, rfl, itN (by decide) ⟨_, rfl, rfl, _, rfl, itT (by decide) q⟩⟩⟩⟩⟩⟩⟩
  · exact ⟨_, rfl, rfl, _, rfl, itN (by decide) ⟨_, rfl, rfl, _, rfl, itN (by decide) ⟨_, rfl, rfl, _, rfl, itN (by decide) ⟨_, rfl, rfl, _, rfl, itN (by decide) ⟨_, rfl, rfl, _, rfl, itN (by decide) ⟨_, rfl, rfl, _, rfl, itN (by decide) ⟨_, rfl, rfl, _, rfl, itT (by decide) q⟩⟩⟩⟩⟩⟩⟩
  · exact ⟨_, rfl, rfl, _, rfl, itN (by decide) ⟨_, rfl, rfl, _, rfl, itN (by decide) ⟨_, rfl, rfl, _, rfl, itN (by decide) ⟨_, rfl, rfl, _, rfl, itN (by decide) ⟨_, rfl, rfl, _, rfl, itN (by decide) ⟨_, rfl, rfl, _, rfl, itN (by decide) ⟨_, rfl, rfl, _, rfl, itT (by decide) q⟩⟩⟩⟩⟩⟩⟩
  · exact ⟨_, rfl, rfl, _, rfl, itN (by decide) ⟨_, rfl, rfl, _, rfl, itN (by decide) ⟨_, rfl, rfl, _, rfl, itN (by decide) ⟨_, rfl, rfl, _, rfl, itN (by decide) ⟨_, rfl, rfl, _, rfl, itN (by decide) ⟨_, rfl, rfl, _, rfl, itN (by decide) ⟨_, rfl, rfl, _, rfl, itT (by decide) q⟩⟩⟩⟩⟩⟩⟩
  · exact ⟨_, rfl, rfl, _, rfl, itY (by decide) ⟨_, rfl, a, cl 5, v, rfl, hh, T.xfC 5 (by decide) (by decide), T.hno 5 (by decide) (by decide), v, z, rfl, hz, _, rfl, v, z, rfl, hz, rfl, end_eq q⟩⟩
  · exact ⟨_, rfl, rfl, _, rfl, itN (by decide) ⟨_, rfl, rfl, _, rfl, itY (by decide) ⟨_, rfl, a, cl 6, v, rfl, hh, T.xfC 6 (by decide) (by decide), T.hno 6 (by decide) (by decide), v, z, rfl, hz, _, rfl, v, z, rfl, hz, rfl, _, rfl, itY rfl ⟨_, rfl, a, cl 6, some (eFld 6, v), rfl, hh, S.fs 6 (.inl rfl), a, cl 6, v, z, rfl, hh, T.xfC 6 (by decide) (by decide), T.hno 6 (by decide) (by decide), hz, z, rfl, _, rfl, v, z, rfl, hz, rfl, end_eq q⟩⟩⟩⟩
  · exact ⟨_, rfl, rfl, _, rfl, itN (by decide) ⟨_, rfl, rfl, _, rfl, itN (by decide) ⟨_, rfl, rfl, _, rfl, itY (by decide) ⟨_, rfl, a, cl 7, v, rfl, hh, T.xfC 7 (by decide) (by decide), T.hno 7 (by decide) (by decide), v, z, rfl, hz, _, rfl, v, z, rfl, hz, rfl, _, rfl, itY rfl ⟨_, rfl, a, cl 7, some (eFld 7, v), rfl, hh, S.fs 7 (.inr rfl), a, cl 7, v, z, rfl, hh, T.xfC 7 (by decide) (by decide), T.hno 7 (by decide) (by decide), hz, z, rfl, _, rfl, v, z, rfl, hz, rfl, end_eq q⟩⟩⟩⟩⟩
  · exact ⟨_, rfl, rfl, _, rfl, itN (by decide) ⟨_, rfl, rfl, _, rfl, itN (by decide) ⟨_, rfl, rfl, _, rfl, itN (by decide) ⟨_, rfl, rfl, _, rfl, itY (by decide) ⟨_, rfl, a, cl 8, v, rfl, hh, T.xfC 8 (by decide) (by decide), T.hno 8 (by decide) (by decide), v, z, rfl, hz, _, rfl, v, z, rfl, hz, rfl, end_eq q⟩⟩⟩⟩⟩
  · exact ⟨_, rfl, rfl, _, rfl, itN (by decide) ⟨_, rfl, rfl, _, rfl, itN (by decide) ⟨_, rfl, rfl, _, rfl, itN (by decide) ⟨_, rfl, rfl, _, rfl, itN (by decide) ⟨_, rfl, rfl, _, rfl, itY (by decide) ⟨_, rfl, a, cl 9, v, rfl, hh, T.xfC 9 (by decide) (by decide), T.hno 9 (by decide) (by decide), v, z, rfl, hz, _, rfl, v, z, rfl, hz, rfl, end_eq q⟩⟩⟩⟩⟩⟩
  · exact ⟨_, rfl, rfl, _, rfl, itN (by decide) ⟨_, rfl, rfl, _, rfl, itN (by decide) ⟨_, rfl, rfl, _, rfl, itN (by decide) ⟨_, rfl, rfl, _, rfl, itN (by decide) ⟨_, rfl, rfl, _, rfl, itN (by decide) ⟨_, rfl, rfl, _, rfl, itY (by decide) ⟨_, rfl, a, cl 10, v, rfl, hh, T.xfC 10 (by decide) (by decide), T.hno 10 (by decide) (by decide), v, z, rfl, hz, _, rfl, v, z, rfl, hz, rfl, end_eq q⟩⟩⟩⟩⟩⟩⟩
  · exact ⟨_, rfl, rfl, _, rfl, itN (by decide) ⟨_, rfl, rfl, _, rfl, itN (by decide) ⟨_, rfl, rfl, _, rfl, itN (by decide) ⟨_, rfl, rfl, _, rfl, itN (by decide) ⟨_, rfl, rfl, _, rfl, itN (by decide) ⟨_, rfl, rfl, _, rfl, itN (by decide) ⟨_, rfl, rfl, _, rfl, itF (by decide) ⟨_, rfl, a, cl 11, v, rfl, hh, T.xfC 11 (by decide) (by decide), T.hno 11 (by decide) (by decide), v, z, rfl, hz, _, rfl, v, z, rfl, hz, rfl, end_eq q⟩⟩⟩⟩⟩⟩⟩⟩
end
end K1

set_option Elab.async false
set_option linter.all false
set_option maxRecDepth 100000
set_option maxHeartbeats 8000000
namespace K1
open PySem PySem.Spec PyProof.Rows L2 Gd Xc
def rIsE2 (K : PySem.W.Frag) (a : Addr) (cls : Value) (d : Option Addr) : List V → Hp → VK → Prop := fun xs H Q => ∃ (D : Addr) (c : V) (u : Value) (b : Bool), xs = [.ref a, c] ∧ cls = .ref D ∧ d = none ∧ ExcC K D ∧ ClsV c u ∧ PySem.W.kitOne K (.ref D) u = some b ∧ Q (.bl b) H
theorem call_isE2 {Y : Cx} {a : Addr} {oe : Obj} {cls : Value} {d : Option Addr} (hp : (a, oe) ∈ Y.pn) (hz : Zc cls d oe) (hf : ∃ vs, oe.data = .fields vs) : CallR Y (.builtin "isinstance") (rIsE2 Y.K a cls d) := by
  intro pins s σ H xs us Q I r h
  obtain ⟨D, c, u, b, rfl, rfl, rfl, C, k, e, q⟩ := h
  obtain ⟨u1, u2, rfl, r1, r2⟩ := vals2 r
  have e2 := k.eq r2
  subst e2
  cases (show u1 = Value.ref a from r1)
  obtain ⟨hget, _⟩ := I.pin (a, oe) (List.mem_append.mpr (.inl hp))
  obtain ⟨vs, hv⟩ := hf
  have J : PySem.W.InstAt s.heap a oe D none := ⟨hget, hz.1, by unfold PySem.W.notCls; rw [hv], by rw [hz.2]; trivial⟩
  exact PySem.W.kia_one (PySem.W.handS_kitx_exc C.hg C.hk C.hs C.hd C.ha C.hn C.ht C.hm) I.kIn J e (fun z => nomatch z) fun tk => ⟨.bl b, H, I.kept (t' := tk) fun _ _ z => z, rfl, q⟩
theorem end_dec {c : Prop} [Decidable c] {Q : VK} {H : Hp} (h : c) (q : Q (.bl true) H) : Q (.bl (decide c)) H := by
  rw [decide_eq_true h]
  exact q
section
variable {P : Program} {w : World} {K : PySem.W.Frag} {mg : Str → Option Value} {base : Heap} {cl fi si : Nat → Addr} {fd sd : Nat → FuncData}
theorem exmL (T : Errs P w K mg base cl fi fd) {i : Nat} (hi : i < 12) : ∀ js : List Nat, (∀ j ∈ js, j < 13) → PySem.W.exmAny K (.ref (cl i)) (js.map fun j => .ref (cl j)) = some (js.any (isE i))
  | [], _ => rfl
  | j :: js, h => by
    have h1 := T.exm i hi j (h j List.mem_cons_self)
    have h2 := exmL T hi js fun m hm => h m (List.mem_cons_of_mem _ hm)
    show PySem.W.exmAny K (.ref (cl i)) (.ref (cl j) :: js.map fun j => .ref (cl j)) = _
    unfold PySem.W.exmAny
    rw [h1, h2]
    rfl
theorem ahead1 {m : Nat} {z : V} {x y : V} (hm : m < 1) (e : [V.bl (isE 1 0), x, y][m]? = some z) : eqV z (.bl true) = false := by
  obtain rfl : m = 0 := by omega
  cases e
  rfl
theorem ahead2 {m : Nat} {z : V} {y : V} (hm : m < 2) (e : [V.bl (isE 2 0), V.bl (isE 2 1), y][m]? = some z) : eqV z (.bl true) = false := by
  rcases (by omega : m = 0 ∨ m = 1) with rfl | rfl <;> cases e <;> rfl
def spCaught : Sp := fun vs H Q _ => ∃ (i : Nat) (v : V), vs = [.int i, v] ∧ i < 12 ∧ ∀ G, Same H G → Q (.int i) G
abbrev CRaised (P : Program) (w : World) (K : PySem.W.Frag) (mg : Str → Option Value) (base : Heap) (cl : Nat → Addr) : Prop := ∃ (f : Addr) (fd : FuncData), FnOk P w K mg base (L2.CX P w) 3 f fd ["_law_lot", "_law_value"] (spRaised cl) ∧ mg "_law_raised" = some (.ref f) ∧ PySem.W.keepIn K (.ref f) = true ∧ Binds K fd ["_law_lot", "_law_value"] []
theorem ok_caught {f : Addr} {fd' : FuncData} (F : Fun K "_law_caught" "_law_caught" s_caught f fd') (B : Blt mg) (T : Errs P w K mg base cl fi fd) (C : CRaised P w K mg base cl) : FnOk P w K mg base CX0 4 f fd' ["_law_lot", "_law_value"] spCaught := by
  obtain ⟨f1, fd1, G_raised, g_raised, k_raised, b_raised⟩ := C
  refine F.ok sc_caught (fun vs H Q E h => ?_) (fun cdv A outer s H vs Q E hr h => ?_)
  · obtain ⟨i, v, rfl, _⟩ := h
    rfl
  obtain ⟨i, v, rfl, hi, q⟩ := h
  refine ⟨_, (pss_cons (ps_try_g rfl rfl sc_caught.nd takes0 (fun W pn xe tk _ => (pss_one (ps_expr (pe_callS G_raised (hr.mono (by decide)) (by rfl) g_raised k_raised b_raised (fun σ => passAt tk σ) (pa_cons (pv 0) (pa_cons (pv 1) pa_nil))))))
  (.as (i := 2) (ts := fun a cls d => tRet (tBM K "list" (rIndex K) (tLst (tCons (tCB (rIsE2 K a cls d) (tCons (tVar 2) (tCons (tC (.ref (cl 0))) tNil))) (tCons (tCB (rIsE2 K a cls d) (tCons (tVar 2) (tCons (tC (.ref (cl 1))) tNil))) (tCons (tC (.bl true)) tNil)))) (tCons (tC (.bl true)) tNil))) (.tup (.cons ⟨rfl, by decide, .inl T.g0⟩ (.cons ⟨rfl, by decide, .inl T.g1⟩ (.cons ⟨rfl, by decide, .inl T.g2⟩ .nil))) (by show 3 ≤ sizeLine; decide)) rfl rfl (fun a oe cls d pn hz hf => by exact (pss_one (ps_ret (pe_bm PySem.F.plainAttrs_list PySem.F.slot_list_index PySem.F.type_list_index mt_index (pe_lst (pa_cons (pe_callB (call_isE2 (a := a) (oe := oe) List.mem_cons_self hz hf) (by rfl) B.isinstance_ (by decide +kernel) (pa_cons (pv 2) (pa_cons (pe_glob (v := .ref (cl 0)) rfl T.g0 rfl) pa_nil))) (pa_cons (pe_callB (call_isE2 (a := a) (oe := oe) List.mem_cons_self hz hf) (by rfl) B.isinstance_ (by decide +kernel) (pa_cons (pv 2) (pa_cons (pe_glob (v := .ref (cl 1)) rfl T.g1 rfl) pa_nil))) (pa_cons pe_bl pa_nil)))) (pa_cons pe_bl pa_nil)))))
  (.as (i := 2) (ts := fun a cls d => tRet (tIf (tTest (tCB (rIsE2 K a cls d) (tCons (tVar 2) (tCons (tC (.ref (cl 3))) tNil)))) (tC (.int 3)) (tC (.int 4)))) (.tup (.cons ⟨rfl, by decide, .inl T.g3⟩ (.cons ⟨rfl, by decide, .inl T.g4⟩ .nil)) (by show 2 ≤ sizeLine; decide)) rfl rfl (fun a oe cls d pn hz hf => by exact (pss_one (ps_ret (pe_ifExp (pt_val (pe_callB (call_isE2 (a := a) (oe := oe) List.mem_cons_self hz hf) (by rfl) B.isinstance_ (by decide +kernel) (pa_cons (pv 2) (pa_cons (pe_glob (v := .ref (cl 3)) rfl T.g3 rfl) pa_nil)))) pe_int pe_int))))
  (.cons (.one ⟨rfl, by decide, .inl T.g5⟩) (fun a oe cls d pn hz hf => (pss_one (ps_ret pe_int)))
  (.cons (.one ⟨rfl, by decide, .inl T.g6⟩) (fun a oe cls d pn hz hf => (pss_one (ps_ret pe_int)))
  (.cons (.one ⟨rfl, by decide, .inl T.g7⟩) (fun a oe cls d pn hz hf => (pss_one (ps_ret pe_int)))
  (.cons (.one ⟨rfl, by decide, .inl T.g8⟩) (fun a oe cls d pn hz hf => (pss_one (ps_ret pe_int)))
  (.cons (.one ⟨rfl, by decide, .inl T.g9⟩) (fun a oe cls d pn hz hf => (pss_one (ps_ret pe_int)))
  (.cons (.one ⟨rfl, by decide, .inl T.g10⟩) (fun a oe cls d pn hz hf => (pss_one (ps_ret pe_int)))
  (.cons (.one ⟨rfl, by decide, .inl T.g11⟩) (fun a oe cls d pn hz hf => (pss_one (ps_ret pe_int)))
  .nil))))))))))
  (pss_one (ps_ret pe_int))), ?_⟩
  rcases twelve hi with rfl | rfl | rfl | rfl | rfl | rfl | rfl | rfl | rfl | rfl | rfl | rfl
  · exact ⟨_, rfl, _, rfl, 0, v, rfl, by decide, fun dd G sG hdd => ⟨true, exmL T (by decide) [0, 1, 2] (by decide), (fun _ a na => ⟨.ref a, rfl, cl 0, .ref (cl 0), .ref (cl 0), isE 0 0, rfl, rfl, hdd (by decide), T.exC 0 (by decide), .own _, T.kit 0 (by decide) 0 (by decide), .ref a, rfl, cl 0, .ref (cl 1), .ref (cl 1), isE 0 1, rfl, rfl, hdd (by decide), T.exC 0 (by decide), .own _, T.kit 0 (by decide) 1 (by decide), by show 3 ≤ sizeLine; decide, fun p np => ⟨.inl ⟨rfl, _, SqL.of upd_same⟩, p, _, .bl true, 0, .bl true, rfl, rfl, SqL.of upd_same, rfl, rfl, rfl, rfl, (fun m z hm e => absurd hm (Nat.not_lt_zero m)), q _ (sG.trans (Same.newG np))⟩⟩), fun z => Bool.noConfusion z⟩⟩
  · exact ⟨_, rfl, _, rfl, 1, v, rfl, by decide, fun dd G sG hdd => ⟨true, exmL T (by decide) [0, 1, 2] (by decide), (fun _ a na => ⟨.ref a, rfl, cl 1, .ref (cl 0), .ref (cl 0), isE 1 0, rfl, rfl, hdd (by decide), T.exC 1 (by decide), .own _, T.kit 1 (by decide) 0 (by decide), .ref a, rfl, cl 1, .ref (cl 1), .ref (cl 1), isE 1 1, rfl, rfl, hdd (by decide), T.exC 1 (by decide), .own _, T.kit 1 (by decide) 1 (by decide), by show 3 ≤ sizeLine; decide, fun p np => ⟨.inl ⟨rfl, _, SqL.of upd_same⟩, p, _, .bl true, 1, .bl true, rfl, rfl, SqL.of upd_same, rfl, rfl, rfl, rfl, (fun m z hm e => ahead1 hm e), q _ (sG.trans (Same.newG np))⟩⟩), fun z => Bool.noConfusion z⟩⟩
  · exact ⟨_, rfl, _, rfl, 2, v, rfl, by decide, fun dd G sG hdd => ⟨true, exmL T (by decide) [0, 1, 2] (by decide), (fun _ a na => ⟨.ref a, rfl, cl 2, .ref (cl 0), .ref (cl 0), isE 2 0, rfl, rfl, hdd (by decide), T.exC 2 (by decide), .own _, T.kit 2 (by decide) 0 (by decide), .ref a, rfl, cl 2, .ref (cl 1), .ref (cl 1), isE 2 1, rfl, rfl, hdd (by decide), T.exC 2 (by decide), .own _, T.kit 2 (by decide) 1 (by decide), by show 3 ≤ sizeLine; decide, fun p np => ⟨.inl ⟨rfl, _, SqL.of upd_same⟩, p, _, .bl true, 2, .bl true, rfl, rfl, SqL.of upd_same, rfl, rfl, rfl, rfl, (fun m z hm e => ahead2 hm e), q _ (sG.trans (Same.newG np))⟩⟩), fun z => Bool.noConfusion z⟩⟩
  · exact ⟨_, rfl, _, rfl, 3, v, rfl, by decide, fun dd G sG hdd => ⟨false, exmL T (by decide) [0, 1, 2] (by decide), fun z => Bool.noConfusion z, fun _ => ⟨true, exmL T (by decide) [3, 4] (by decide), (fun _ a na => ⟨.ref a, rfl, cl 3, .ref (cl 3), .ref (cl 3), isE 3 3, rfl, rfl, hdd (by decide), T.exC 3 (by decide), .own _, T.kit 3 (by decide) 3 (by decide), _, rfl, iteT (q G sG)⟩), fun z => Bool.noConfusion z⟩⟩⟩
  · exact ⟨_, rfl, _, rfl, 4, v, rfl, by decide, fun dd G sG hdd => ⟨false, exmL T (by decide) [0, 1, 2] (by decide), fun z => Bool.noConfusion z, fun _ => ⟨true, exmL T (by decide) [3, 4] (by decide), (fun _ a na => ⟨.ref a, rfl, cl 4, .ref (cl 3), .ref (cl 3), isE 4 3, rfl, rfl, hdd (by decide), T.exC 4 (by decide), .own _, T.kit 4 (by decide) 3 (by decide), _, rfl, iteF (q G sG)⟩), fun z => Bool.noConfusion z⟩⟩⟩
  · exact ⟨_, rfl, _, rfl, 5, v, rfl, by decide, fun dd G sG hdd => ⟨false, exmL T (by decide) [0, 1, 2] (by decide), fun z => Bool.noConfusion z, fun _ => ⟨false, exmL T (by decide) [3, 4] (by decide), fun z => Bool.noConfusion z, fun _ => ⟨true, exmL T (by decide) [5] (by decide), (fun _ a na => q G sG), fun z => Bool.noConfusion z⟩⟩⟩⟩
  · exact ⟨_, rfl, _, rfl, 6, v, rfl, by decide, fun dd G sG hdd => ⟨false, exmL T (by decide) [0, 1, 2] (by decide), fun z => Bool.noConfusion z, fun _ => ⟨false, exmL T (by decide) [3, 4] (by decide), fun z => Bool.noConfusion z, fun _ => ⟨false, exmL T (by decide) [5] (by decide), fun z => Bool.noConfusion z, fun _ => ⟨true, exmL T (by decide) [6] (by decide), (fun _ a na => q G sG), fun z => Bool.noConfusion z⟩⟩⟩⟩⟩
  · exact ⟨_, rfl, _, rfl, 7, v, rfl, by decide, fun dd G sG hdd => ⟨false, exmL T (by decide) [0, 1, 2] (by decide), fun z => Bool.noConfusion z, fun _ => ⟨false, exmL T (by decide) [3, 4] (by decide), fun z => Bool.noConfusion z, fun _ => ⟨false, exmL T (by decide) [5] (by decide), fun z => Bool.noConfusion z, fun _ => ⟨false, exmL T (by decide) [6] (by decide), fun z => Bool.noConfusion z, fun _ => ⟨true, exmL T (by decide) [7] (by decide), (fun _ a na => q G sG), fun z => Bool.noConfusion z⟩⟩⟩⟩⟩⟩
  · exact ⟨_, rfl, _, rfl, 8, v, rfl, by decide, fun dd G sG hdd => ⟨false, exmL T (by decide) [0, 1, 2] (by decide), fun z => Bool.noConfusion z, fun _ => ⟨false, exmL T (by decide) [3, 4] (by decide), fun z => Bool.noConfusion z, fun _ => ⟨false, exmL T (by decide) [5] (by decide), fun z => Bool.noConfusion z, fun _ => ⟨false, exmL T (by decide) [6] (by decide), fun z => Bool.noConfusion z, fun _ => ⟨false, exmL T (by decide) [7] (by decide), fun z => Bool.noConfusion z, fun _ => ⟨true, exmL T (by decide) [8] (by decide), (fun _ a na => q G sG), fun z => Bool.noConfusion z⟩⟩⟩⟩⟩⟩⟩
  · exact ⟨_, rfl, _, rfl, 9, v, rfl, by decide, fun dd G sG hdd => ⟨false, exmL T (by decide) [0, 1, 2] (by decide), fun z => Bool.noConfusion z, fun _ => ⟨false, exmL T (by decide) [3, 4] (by decide), fun z => Bool.noConfusion z, fun _ => ⟨false, exmL T (by decide) [5] (by decide), fun z => Bool.noConfusion z, fun _ => ⟨false, exmL T (by decide) [6] (by decide), fun z => Bool.noConfusion z, fun _ => ⟨false, exmL T (by decide) [7] (by decide), fun z => Bool.noConfusion z, fun _ => ⟨false, exmL T (by decide) [8] (by decide), fun z => Bool.noConfusion z, fun _ => ⟨true, exmL T (by decide) [9] (by decide), (fun _ a na => q G sG), fun z => Bool.noConfusion z⟩⟩⟩⟩⟩⟩⟩⟩
  · exact ⟨_, rfl, _, rfl, 10, v, rfl, by decide, fun dd G sG hdd => ⟨false, exmL T (by decide) [0, 1, 2] (by decide), fun z => Bool.noConfusion z, fun _ => ⟨false, exmL T (by decide) [3, 4] (by decide), fun z => Bool.noConfusion z, fun _ => ⟨false, exmL T (by decide) [5] (by decide), fun z => Bool.noConfusion z, fun _ => ⟨false, exmL T (by decide) [6] (by decide), fun z => Bool.noConfusion z, fun _ => ⟨false, exmL T (by decide) [7] (by decide), fun z => Bool.noConfusion z, fun _ => ⟨false, exmL T (by decide) [8] (by decide), fun z => Bool.noConfusion z, fun _ => ⟨false, exmL T (by decide) [9] (by decide), fun z => Bool.noConfusion z, fun _ => ⟨true, exmL T (by decide) [10] (by decide), (fun _ a na => q G sG), fun z => Bool.noConfusion z⟩⟩⟩⟩⟩⟩⟩⟩⟩
  · exact ⟨_, rfl, _, rfl, 11, v, rfl, by decide, fun dd G sG hdd => ⟨false, exmL T (by decide) [0, 1, 2] (by decide), fun z => Bool.noConfusion z, fun _ => ⟨false, exmL T (by decide) [3, 4] (by decide), fun z => Bool.noConfusion z, fun _ => ⟨false, exmL T (by decide) [5] (by decide), fun z => Bool.noConfusion z, fun _ => ⟨false, exmL T (by decide) [6] (by decide), fun z => Bool.noConfusion z, fun _ => ⟨false, exmL T (by decide) [7] (by decide), fun z => Bool.noConfusion z, fun _ => ⟨false, exmL T (by decide) [8] (by decide), fun z => Bool.noConfusion z, fun _ => ⟨false, exmL T (by decide) [9] (by decide), fun z => Bool.noConfusion z, fun _ => ⟨false, exmL T (by decide) [10] (by decide), fun z => Bool.noConfusion z, fun _ => ⟨true, exmL T (by decide) [11] (by decide), (fun _ a na => q G sG), fun z => Bool.noConfusion z⟩⟩⟩⟩⟩⟩⟩⟩⟩⟩
def spByBase : Sp := fun vs H Q _ => ∃ (i : Nat) (v : V), vs = [.int i, v] ∧ i < 12 ∧ ∀ G, Same H G → Q (.bl true) G
theorem ok_by_base {f : Addr} {fd' : FuncData} (F : Fun K "_law_is_caught_by_base" "_law_is_caught_by_base" s_by_base f fd') (B : Blt mg) (T : Errs P w K mg base cl fi fd) (C : CRaised P w K mg base cl) : FnOk P w K mg base CX0 4 f fd' ["_law_lot", "_law_value"] spByBase := by
  obtain ⟨f1, fd1, G_raised, g_raised, k_raised, b_raised⟩ := C
  refine F.ok sc_by_base (fun vs H Q E h => ?_) (fun cdv A outer s H vs Q E hr h => ?_)
  · obtain ⟨i, v, rfl, _⟩ := h
    rfl
  obtain ⟨i, v, rfl, hi, q⟩ := h
  refine ⟨_, (pss_cons (ps_try_g rfl rfl sc_by_base.nd takes0 (fun W pn xe tk _ => (pss_one (ps_expr (pe_callS G_raised (hr.mono (by decide)) (by rfl) g_raised k_raised b_raised (fun σ => passAt tk σ) (pa_cons (pv 0) (pa_cons (pv 1) pa_nil))))))
  (.cons (.one ⟨rfl, by decide, .inl T.g12⟩) (fun a oe cls d pn hz hf => (pss_one (ps_ret (pe_cmpR op_lt (pv 0) pe_int (nomark _)))))
  (.cons (.tup (.cons ⟨rfl, by decide, .inl T.g6⟩ (.cons ⟨rfl, by decide, .inl T.g7⟩ (.cons ⟨rfl, by decide, .inl T.g8⟩ (.cons ⟨rfl, by decide, .inl T.g9⟩ (.cons ⟨rfl, by decide, .inl T.g10⟩ (.cons ⟨rfl, by decide, .inl T.g11⟩ .nil)))))) (by show 6 ≤ sizeLine; decide)) (fun a oe cls d pn hz hf => (pss_one (ps_ret (pe_cmpR op_gt (pv 0) pe_int (nomark _)))))
  .nil)))
  (pss_one (ps_ret pe_bl))), ?_⟩
  rcases twelve hi with rfl | rfl | rfl | rfl | rfl | rfl | rfl | rfl | rfl | rfl | rfl | rfl
  · exact ⟨_, rfl, _, rfl, 0, v, rfl, by decide, fun dd G sG hdd => ⟨true, exmL T (by decide) [12] (by decide), (fun _ a na => ⟨_, rfl, _, _, rfl, rfl, end_dec (by decide) (q G sG)⟩), fun z => Bool.noConfusion z⟩⟩
  · exact ⟨_, rfl, _, rfl, 1, v, rfl, by decide, fun dd G sG hdd => ⟨true, exmL T (by decide) [12] (by decide), (fun _ a na => ⟨_, rfl, _, _, rfl, rfl, end_dec (by decide) (q G sG)⟩), fun z => Bool.noConfusion z⟩⟩
  · exact ⟨_, rfl, _, rfl, 2, v, rfl, by decide, fun dd G sG hdd => ⟨true, exmL T (by decide) [12] (by decide), (fun _ a na => ⟨_, rfl, _, _, rfl, rfl, end_dec (by decide) (q G sG)⟩), fun z => Bool.noConfusion z⟩⟩
  · exact ⟨_, rfl, _, rfl, 3, v, rfl, by decide, fun dd G sG hdd => ⟨true, exmL T (by decide) [12] (by decide), (fun _ a na => ⟨_, rfl, _, _, rfl, rfl, end_dec (by decide) (q G sG)⟩), fun z => Bool.noConfusion z⟩⟩
  · exact ⟨_, rfl, _, rfl, 4, v, rfl, by decide, fun dd G sG hdd => ⟨true, exmL T (by decide) [12] (by decide), (fun _ a na => ⟨_, rfl, _, _, rfl, rfl, end_dec (by decide) (q G sG)⟩), fun z => Bool.noConfusion z⟩⟩
  · exact ⟨_, rfl, _, rfl, 5, v, rfl, by decide, fun dd G sG hdd => ⟨true, exmL T (by decide) [12] (by decide), (fun _ a na => ⟨_, rfl, _, _, rfl, rfl, end_dec (by decide) (q G sG)⟩), fun z => Bool.noConfusion z⟩⟩
  · exact ⟨_, rfl, _, rfl, 6, v, rfl, by decide, fun dd G sG hdd => ⟨false, exmL T (by decide) [12] (by decide), fun z => Bool.noConfusion z, fun _ => ⟨true, exmL T (by decide) [6, 7, 8, 9, 10, 11] (by decide), (fun _ a na => ⟨_, rfl, _, _, rfl, rfl, end_dec (by decide) (q G sG)⟩), fun z => Bool.noConfusion z⟩⟩⟩
  · exact ⟨_, rfl, _, rfl, 7, v, rfl, by decide, fun dd G sG hdd => ⟨false, exmL T (by decide) [12] (by decide), fun z => Bool.noConfusion z, fun _ => ⟨true, exmL T (by decide) [6, 7, 8, 9, 10, 11] (by decide), (fun _ a na => ⟨_, rfl, _, _, rfl, rfl, end_dec (by decide) (q G sG)⟩), fun z => Bool.noConfusion z⟩⟩⟩
  · exact ⟨_, rfl, _, rfl, 8, v, rfl, by decide, fun dd G sG hdd => ⟨false, exmL T (by decide) [12] (by decide), fun z => Bool.noConfusion z, fun _ => ⟨true, exmL T (by decide) [6, 7, 8, 9, 10, 11] (by decide), (fun _ a na => ⟨_, rfl, _, _, rfl, rfl, end_dec (by decide) (q G sG)⟩), fun z => Bool.noConfusion z⟩⟩⟩
  · exact ⟨_, rfl, _, rfl, 9, v, rfl, by decide, fun dd G sG hdd => ⟨false, exmL T (by decide) [12] (by decide), fun z => Bool.noConfusion z, fun _ => ⟨true, exmL T (by decide) [6, 7, 8, 9, 10, 11] (by decide), (fun _ a na => ⟨_, rfl, _, _, rfl, rfl, end_dec (by decide) (q G sG)⟩), fun z => Bool.noConfusion z⟩⟩⟩
  · exact ⟨_, rfl, _, rfl, 10, v, rfl, by decide, fun dd G sG hdd => ⟨false, exmL T (by decide) [12] (by decide), fun z => Bool.noConfusion z, fun _ => ⟨true, exmL T (by decide) [6, 7, 8, 9, 10, 11] (by decide), (fun _ a na => ⟨_, rfl, _, _, rfl, rfl, end_dec (by decide) (q G sG)⟩), fun z => Bool.noConfusion z⟩⟩⟩
  · exact ⟨_, rfl, _, rfl, 11, v, rfl, by decide, fun dd G sG hdd => ⟨false, exmL T (by decide) [12] (by decide), fun z => Bool.noConfusion z, fun _ => ⟨true, exmL T (by decide) [6, 7, 8, 9, 10, 11] (by decide), (fun _ a na => ⟨_, rfl, _, _, rfl, rfl, end_dec (by decide) (q G sG)⟩), fun z => Bool.noConfusion z⟩⟩⟩
end
end K1

set_option Elab.async false
set_option linter.all false
set_option maxRecDepth 100000
set_option maxHeartbeats 8000000
namespace K1
open PySem PySem.Spec PyProof.Rows L2 Gd Xc
/-- over a range, whatever stays -/
theorem lc_rngG {lo : Int} {n : Nat} {g : TG} {tt : TT} {te : TE} {vs : List Nat} {σ : L2.St} {H1 : Hp} {D : Addr} {Qd : Hp → Prop} (Ok : Hp → Prop) (Acc : Nat → List V → Prop) (h0 : Ok (upd H1 D (.lst []))) (z0 : Acc 0 [])
    (hs : ∀ i H, i < n → Nx Ok D Acc i H → g (.int (lo + i)) (wipe σ vs) H fun σ2 H2 => wipe σ2 vs = wipe σ vs ∧ tt σ2 H2 fun b H3 =>
      if b = true then te σ2 H3 fun y H4 => ∃ acc, H4 D = some (.lst acc) ∧ acc.length < sizeLine ∧ Nx Ok D Acc (i + 1) (upd H4 D (.lst (acc ++ [y]))) else Nx Ok D Acc (i + 1) H3)
    (hd : ∀ H acc, Ok H → H D = some (.lst acc) → Acc n acc → Qd H) :
    ∃ W : Nat → Nat → Hp → Prop, (∃ m, W 0 m (upd H1 D (.lst []))) ∧ ∀ i m H, W i m H →
      ((Itr lo n).stop i H ∧ Qd H) ∨ ((Itr lo n).go i H ∧ ∃ N : Hp → Prop, (∀ H', N H' → ∃ m', m' < m ∧ W (i + 1) m' H') ∧ ∀ v H', (Itr lo n).yld i H v H' → g v (wipe σ vs) H' fun σ2 H2 => wipe σ2 vs = wipe σ vs ∧ tt σ2 H2 fun b H3 =>
        if b = true then te σ2 H3 fun y H4 => ∃ acc, H4 D = some (.lst acc) ∧ acc.length < sizeLine ∧ N (upd H4 D (.lst (acc ++ [y]))) else N H3) :=
  lc_any (J := Itr lo n) (n := n) Ok Acc (fun i v _ => v = .int (lo + i)) h0 z0 (fun i H hi _ => hi) (fun H _ => Nat.le_refl _)
    (fun i H v H' hi nx ⟨e, f⟩ => by
      subst e
      exact ⟨nx, f⟩)
    (fun i v H hi nx e => by
      subst e
      exact hs i H hi nx) hd

theorem rowC_is (i : Nat) : (List.range 12).map (fun j => V.bl (decide (i = j))) ++ [V.bl (decide ((i : Int) < 6))] = rowC i := by
  have e : decide ((i : Int) < 6) = decide (i < 6) := decide_eq_decide.mpr (by omega)
  rw [e]
  rfl
theorem rowB_is (i : Nat) : (List.range 7).map (fun j => V.bl (decide (j ∈ bSome i))) = rowB i := rfl
theorem in_ints (n : Nat) : ∀ l : List Nat, inV (.int n) (l.map fun j : Nat => V.int (j : Int)) = decide (n ∈ l)
  | [] => rfl
  | m :: l => by
    have ih := in_ints n l
    unfold inV at ih ⊢
    rw [List.map_cons, List.any_cons, ih]
    have e : eqV (.int (m : Int)) (.int (n : Int)) = decide (n = m) := by
      show ((m : Int) == (n : Int)) = decide (n = m)
      by_cases h : n = m
      · subst h
        simp
      · rw [decide_eq_false h]
        exact beq_eq_false_iff_ne.mpr fun z => h (by omega)
    rw [e]
    simp [List.mem_cons]
theorem flat_ints : ∀ l : List Nat, (l.map fun j : Nat => V.int (j : Int)).all flatV = true
  | [] => rfl
  | m :: l => by
    rw [List.map_cons, List.all_cons, flat_ints l]
    rfl
section
variable {P : Program} {w : World} {K : PySem.W.Frag} {mg : Str → Option Value} {base : Heap}
def spDue : Sp := fun vs H Q _ => ∃ (i : Nat), vs = [.int i] ∧ i < 12 ∧ ∀ p p1 p2 G, Same H G → G p = some (.lst [.ref p1, .ref p2]) → G p1 = some (.lst (rowC i)) → G p2 = some (.lst (rowB i)) → Q (.ref p) G
theorem ok_due {f : Addr} {fd' : FuncData} (F : Fun K "_law_due" "_law_due" s_due f fd') (B : Blt mg) : FnOk P w K mg base CX0 1 f fd' ["_law_lot"] spDue := by
  refine F.ok sc_due (fun vs H Q E h => ?_) (fun cdv A outer s H vs Q E hr h => ?_)
  · obtain ⟨i, rfl, _⟩ := h
    rfl
  obtain ⟨i, rfl, hi, q⟩ := h
  refine ⟨_, (pss_cons (ps_set (i := 1) sc_due.nd rfl (.inr rfl) (pe_dget2 (hu_of hr) (pe_disp (pps_cons pe_int (pe_tup (pa_cons pe_int (pa_cons pe_int pa_nil))) (pps_cons pe_int (pe_tup (pa_cons pe_int (pa_cons pe_int pa_nil))) (pps_cons pe_int (pe_tup (pa_cons pe_int (pa_cons pe_int pa_nil))) (pps_cons pe_int (pe_tup (pa_cons pe_int pa_nil)) (pps_cons pe_int (pe_tup (pa_cons pe_int pa_nil)) (pps_cons pe_int (pe_tup (pa_cons pe_int pa_nil)) pps_nil)))))) (by rfl) (by rfl) (fun z => by cases z) (by decide)) (pv 0) (pe_tup (pa_cons pe_int pa_nil)) ⟨by rfl, by rfl, by rfl, by rfl⟩))
  (pss_one (ps_ret (pe_lst (pa_cons (pe_op op_cat (pe_lc (own := [("_law_at", 2)]) (g := gName 2) (tt := tYes) rfl sc_due.nd (pi_range1 (by rfl) B.range_ (pa_cons pe_int pa_nil)) (blkOk_by (own := [("_law_at", 2)]) (N := nm_due) (sc := defScope s_due) (by decide +kernel)) (fun _ _ _ _ _ => (pg_name (i := 2) sc_due.nd rfl (.inl rfl))) (fun _ _ _ _ _ => pts_nil) (fun _ _ _ _ _ => (pe_cmpR op_eq (pv 2) (pv 0) (nomark _)))) (pe_lst (pa_cons (pe_cmpR op_lt (pv 0) pe_int (nomark _)) pa_nil))) (pa_cons (pe_lc (own := [("_law_at", 2)]) (g := gName 2) (tt := tYes) rfl sc_due.nd (pi_range1 (by rfl) B.range_ (pa_cons pe_int pa_nil)) (blkOk_by (own := [("_law_at", 2)]) (N := nm_due) (sc := defScope s_due) (by decide +kernel)) (fun _ _ _ _ _ => (pg_name (i := 2) sc_due.nd rfl (.inl rfl))) (fun _ _ _ _ _ => pts_nil) (fun _ _ _ _ _ => (pe_cmpR (r := rIn K false) op_in_seq (pv 2) (pv 1) rfl))) pa_nil)))))), ?_⟩
  refine fun pd npd => ?_
  have sD : (upd H pd (.dK [])) pd = some (.dK []) := upd_same
  have s0 : ∀ b x, H b = some x → (upd H pd (.dK [])) b = some x := Same.newG npd
  generalize upd H pd (.dK []) = D0 at sD s0 ⊢
  refine ⟨by show 2 ≤ sizeLine; decide, fun t6 n6 => ?_⟩
  have y6 : Same D0 (upd D0 t6 (.tup [.int 1, .int 2])) := Same.newG n6
  have e6 : (upd D0 t6 (.tup [.int 1, .int 2])) t6 = some (.tup [.int 1, .int 2]) := upd_same
  generalize upd D0 t6 (.tup [.int 1, .int 2]) = D6 at y6 e6 ⊢
  refine ⟨by show 2 ≤ sizeLine; decide, fun t7 n7 => ?_⟩
  have y7 : Same D6 (upd D6 t7 (.tup [.int 1, .int 3])) := Same.newG n7
  have e7 : (upd D6 t7 (.tup [.int 1, .int 3])) t7 = some (.tup [.int 1, .int 3]) := upd_same
  generalize upd D6 t7 (.tup [.int 1, .int 3]) = D7 at y7 e7 ⊢
  refine ⟨by show 2 ≤ sizeLine; decide, fun t8 n8 => ?_⟩
  have y8 : Same D7 (upd D7 t8 (.tup [.int 4, .int 5])) := Same.newG n8
  have e8 : (upd D7 t8 (.tup [.int 4, .int 5])) t8 = some (.tup [.int 4, .int 5]) := upd_same
  generalize upd D7 t8 (.tup [.int 4, .int 5]) = D8 at y8 e8 ⊢
  refine ⟨by show 1 ≤ sizeLine; decide, fun t9 n9 => ?_⟩
  have y9 : Same D8 (upd D8 t9 (.tup [.int 1])) := Same.newG n9
  have e9 : (upd D8 t9 (.tup [.int 1])) t9 = some (.tup [.int 1]) := upd_same
  generalize upd D8 t9 (.tup [.int 1]) = D9 at y9 e9 ⊢
  refine ⟨by show 1 ≤ sizeLine; decide, fun t10 n10 => ?_⟩
  have y10 : Same D9 (upd D9 t10 (.tup [.int 4])) := Same.newG n10
  have e10 : (upd D9 t10 (.tup [.int 4])) t10 = some (.tup [.int 4]) := upd_same
  generalize upd D9 t10 (.tup [.int 4]) = D10 at y10 e10 ⊢
  refine ⟨by show 1 ≤ sizeLine; decide, fun t11 n11 => ?_⟩
  have y11 : Same D10 (upd D10 t11 (.tup [.int 4])) := Same.newG n11
  have e11 : (upd D10 t11 (.tup [.int 4])) t11 = some (.tup [.int 4]) := upd_same
  generalize upd D10 t11 (.tup [.int 4]) = D11 at y11 e11 ⊢
  have z0 : Same D0 D11 := y6.trans ((y7.trans ((y8.trans ((y9.trans ((y10.trans ((y11.trans (Same.refl D11)))))))))))
  have e6 := (show Same D6 D11 from (y7.trans ((y8.trans ((y9.trans ((y10.trans ((y11.trans (Same.refl D11))))))))))) _ _ e6
  have e7 := (show Same D7 D11 from (y8.trans ((y9.trans ((y10.trans ((y11.trans (Same.refl D11))))))))) _ _ e7
  have e8 := (show Same D8 D11 from (y9.trans ((y10.trans ((y11.trans (Same.refl D11))))))) _ _ e8
  have e9 := (show Same D9 D11 from (y10.trans ((y11.trans (Same.refl D11))))) _ _ e9
  have e10 := (show Same D10 D11 from (y11.trans (Same.refl D11))) _ _ e10
  refine ⟨z0 _ _ sD, [(.inl 6, .ref t6), (.inl 7, .ref t7), (.inl 8, .ref t8), (.inl 9, .ref t9), (.inl 10, .ref t10), (.inl 11, .ref t11)], rfl, by show 6 ≤ 15; decide, pd, rfl, .inl ⟨_, .inl upd_same⟩, _, rfl, by show 1 ≤ sizeLine; decide, fun tz nz => ?_⟩
  have u : ∀ {t : Addr} {xs : List V}, D11 t = some (.tup xs) → (upd (upd D11 pd (.dK (mergeK [] [(.inl 6, .ref t6), (.inl 7, .ref t7), (.inl 8, .ref t8), (.inl 9, .ref t9), (.inl 10, .ref t10), (.inl 11, .ref t11)]))) tz (.tup [.int 0])) t = some (.tup xs) := fun {t xs} e => by
    have n1 : t ≠ pd := fun z => by
      rw [z, z0 _ _ sD] at e
      cases e
    have n2 : t ≠ tz := fun z => by
      rw [← z, upd_ne n1, e] at nz
      cases nz
    rw [upd_ne n2, upd_ne n1]
    exact e
  have sH : Same H (upd (upd D11 pd (.dK (mergeK [] [(.inl 6, .ref t6), (.inl 7, .ref t7), (.inl 8, .ref t8), (.inl 9, .ref t9), (.inl 10, .ref t10), (.inl 11, .ref t11)]))) tz (.tup [.int 0])) := fun b x e => by
    have n1 : b ≠ pd := ne_of_none e npd
    have e2 := z0 _ _ (s0 b x e)
    have n2 : b ≠ tz := fun z => by
      rw [← z, upd_ne n1, e2] at nz
      cases nz
    rw [upd_ne n2, upd_ne n1]
    exact e2
  have hd : (upd (upd D11 pd (.dK (mergeK [] [(.inl 6, .ref t6), (.inl 7, .ref t7), (.inl 8, .ref t8), (.inl 9, .ref t9), (.inl 10, .ref t10), (.inl 11, .ref t11)]))) tz (.tup [.int 0])) pd = some (.dK (mergeK [] [(.inl 6, .ref t6), (.inl 7, .ref t7), (.inl 8, .ref t8), (.inl 9, .ref t9), (.inl 10, .ref t10), (.inl 11, .ref t11)])) := by
    have n2 : pd ≠ tz := fun z => by
      rw [← z, upd_same] at nz
      cases nz
    rw [upd_ne n2, upd_same]
  obtain ⟨pp, p1, p2⟩ : ∃ pp, (valV (mergeK [] [(.inl 6, .ref t6), (.inl 7, .ref t7), (.inl 8, .ref t8), (.inl 9, .ref t9), (.inl 10, .ref t10), (.inl 11, .ref t11)]) (Sum.inl (i : Int))).getD (.ref tz) = .ref pp ∧ (upd (upd D11 pd (.dK (mergeK [] [(.inl 6, .ref t6), (.inl 7, .ref t7), (.inl 8, .ref t8), (.inl 9, .ref t9), (.inl 10, .ref t10), (.inl 11, .ref t11)]))) tz (.tup [.int 0])) pp = some (.tup ((bSome i).map fun j : Nat => V.int (j : Int))) := by
    rcases twelve hi with rfl | rfl | rfl | rfl | rfl | rfl | rfl | rfl | rfl | rfl | rfl | rfl
    · exact ⟨tz, rfl, upd_same⟩
    · exact ⟨tz, rfl, upd_same⟩
    · exact ⟨tz, rfl, upd_same⟩
    · exact ⟨tz, rfl, upd_same⟩
    · exact ⟨tz, rfl, upd_same⟩
    · exact ⟨tz, rfl, upd_same⟩
    · exact ⟨t6, rfl, u e6⟩
    · exact ⟨t7, rfl, u e7⟩
    · exact ⟨t8, rfl, u e8⟩
    · exact ⟨t9, rfl, u e9⟩
    · exact ⟨t10, rfl, u e10⟩
    · exact ⟨t11, rfl, u e11⟩
  generalize upd (upd D11 pd (.dK (mergeK [] [(.inl 6, .ref t6), (.inl 7, .ref t7), (.inl 8, .ref t8), (.inl 9, .ref t9), (.inl 10, .ref t10), (.inl 11, .ref t11)]))) tz (.tup [.int 0]) = G at sH hd p2 ⊢
  refine ⟨_, DGet.k (k := Sum.inl (i : Int)) hd, ?_⟩
  rw [p1]
  -- the first list
  refine ⟨12, rfl, by decide, by decide, fun L1 nL1 => ?_⟩
  refine lc_rngG (n := 12) (Same G) (fun n acc => acc = (List.range n).map fun j => V.bl (decide (i = j))) (Same.newG nL1) rfl (fun n G1 hn nx => ?_) (fun G1 acc s1 e1 ea => ?_)
  · obtain ⟨acc, s1, e1, ea⟩ := nx
    refine ⟨rfl, tyes ⟨_, rfl, _, rfl, rfl, nx_put (fun F o z => z.upG nL1) s1 e1 (by rw [ea, List.length_map, List.length_range]; omega) ?_⟩⟩
    rw [ea, List.range_succ, List.map_append]
    exact congrArg (fun b => (List.range n).map (fun j => V.bl (decide (i = j))) ++ [V.bl b]) (decide_eq_decide.mpr ⟨fun z => by
      have z := V.int.inj z
      omega, fun z => by
      subst z
      rw [Int.zero_add]⟩)
  have l12 : acc.length = 12 := by rw [ea, List.length_map, List.length_range]
  refine ⟨_, rfl, _, _, rfl, rfl, by show 1 ≤ sizeLine; decide, fun m1 nm1 => ⟨L1, m1, acc, _, rfl, rfl, by rw [upd_ne (ne_of_none e1 nm1)]; exact e1, upd_same, by rw [l12]; show 13 ≤ sizeLine; decide, fun r1 nr1 => ?_⟩⟩
  have s2 := (s1.trans (Same.newG (o := .lst [.bl (decide ((i : Int) < 6))]) nm1)).trans (Same.newG (o := .lst (acc ++ [.bl (decide ((i : Int) < 6))])) nr1)
  have e2 : (upd (upd G1 m1 (.lst [.bl (decide ((i : Int) < 6))])) r1 (.lst (acc ++ [.bl (decide ((i : Int) < 6))]))) r1 = some (.lst (rowC i)) := by rw [upd_same, ea, rowC_is]
  generalize upd (upd G1 m1 (.lst [.bl (decide ((i : Int) < 6))])) r1 (.lst (acc ++ [.bl (decide ((i : Int) < 6))])) = G2 at s2 e2 ⊢
  -- the second list
  refine ⟨7, rfl, by decide, by decide, fun L2 nL2 => ?_⟩
  refine lc_rngG (n := 7) (Same G2) (fun n acc => acc = (List.range n).map fun j => V.bl (decide (j ∈ bSome i))) (Same.newG nL2) rfl (fun n G3 hn nx => ?_) (fun G3 acc2 s3 e3 ea2 => ?_)
  · obtain ⟨acc, s3, e3, ea⟩ := nx
    refine ⟨rfl, tyes ⟨_, rfl, _, rfl, pp, _, rfl, .inr (SqT.of ((s2.trans s3) _ _ p2)), rfl, flat_ints _, nx_put (fun F o z => z.upG nL2) s3 e3 (by rw [ea, List.length_map, List.length_range]; omega) ?_⟩⟩
    rw [ea, List.range_succ, List.map_append]
    exact congrArg (fun b => (List.range n).map (fun j => V.bl (decide (j ∈ bSome i))) ++ [V.bl b]) (by
      rw [Int.zero_add]
      exact in_ints n (bSome i))
  refine ⟨by show 2 ≤ sizeLine; decide, fun rp nrp => ?_⟩
  exact q rp r1 L2 _ (((sH.trans s2).trans s3).trans (Same.newG nrp)) upd_same (by rw [upd_ne (ne_of_none (s3 _ _ e2) nrp)]; exact s3 _ _ e2) (by rw [upd_ne (ne_of_none e3 nrp), e3, ea2, rowB_is])
end
end K1

set_option Elab.async false
set_option linter.all false
set_option maxRecDepth 100000
set_option maxHeartbeats 8000000
namespace K1
open PySem PySem.Spec PyProof.Rows L2 Gd Xc
theorem But.upD {k p : Addr} {H G : Hp} {o : HO} (n : H p = none) (ne : p ≠ k) (a : But k H G) : But k H (upd G p o) := by
  obtain ⟨x, y, z, e, r⟩ := a.sack
  refine ⟨fun b u nb e => ?_, x, y, z, by rw [upd_ne ne.symm]; exact e, r⟩
  rw [upd_ne (ne_of_none e n)]
  exact a.stay b u nb e
theorem Sack.ne {H : Hp} {k p : Addr} (h : Sack H k) (n : H p = none) : p ≠ k := fun e => by
  obtain ⟨_, _, _, z, _⟩ := h
  rw [← e, n] at z
  cases z
theorem Sack.same {H G : Hp} {k : Addr} (h : Sack H k) (s : Same H G) : Sack G k := (But.same h s).sack
theorem seq_at {n j : Nat} (h : j < n) : seqIndex? (j : Int) n = some j := by
  have h1 : ¬ ((j : Int) < 0) := by omega
  unfold seqIndex?
  simp only [h1, if_false]
  have e : (decide (0 ≤ (j : Int)) && decide ((j : Int) < (n : Int))) = true := by
    rw [Bool.and_eq_true, decide_eq_true_eq, decide_eq_true_eq]
    omega
  rw [if_pos e, Int.toNat_natCast]
theorem erase_perm : ∀ (l : List V) (j : Nat) (h : j < l.length), (l[j] :: l.eraseIdx j).Perm l
  | x :: l, 0, _ => List.Perm.refl _
  | x :: l, j + 1, h => by
    have h' : j < l.length := by simpa using h
    have ih := erase_perm l j h'
    show (l[j] :: x :: l.eraseIdx j).Perm (x :: l)
    exact (List.Perm.swap x l[j] _).trans (List.Perm.cons x ih)
section
variable {P : Program} {w : World} {K : PySem.W.Frag} {mg : Str → Option Value} {base : Heap}
abbrev CGrab (P : Program) (w : World) (K : PySem.W.Frag) (mg : Str → Option Value) (base : Heap) : Prop := Has P w K mg base 1 "_law_grab" ["_law_sack_here", "_law_total"] spGrab
def spShuf : Sp := fun vs H Q _ => ∃ (k l : Addr) (xs : List V), vs = [.ref k, .ref l] ∧ Sack H k ∧ l ≠ k ∧ H l = some (.lst xs) ∧ xs.length ≤ 1000 ∧ ∀ G p ys, But k H G → p ≠ k → H p = none → G p = some (.lst ys) → ys.Perm xs → Q (.ref p) G
theorem ok_shuffled {f : Addr} {fd : FuncData} (F : Fun K "_law_shuffled" "_law_shuffled" s_shuffled f fd) (B : Blt mg) (C : CGrab P w K mg base) : FnOk P w K mg base CX0 2 f fd ["_law_sack_here", "_law_items"] spShuf := by
  obtain ⟨f1, fd1, G_grab, g_grab, k_grab, b_grab⟩ := C.ex
  refine F.ok sc_shuffled (fun vs H Q E h => ?_) (fun cdv A outer s H vs Q E hr h => ?_)
  · obtain ⟨k, l, xs, rfl, _⟩ := h
    rfl
  obtain ⟨k, l, xs, rfl, hk, lk, hl, few, q⟩ := h
  refine ⟨_, (pss_cons (ps_set (i := 2) sc_shuffled.nd rfl (.inr rfl) (pe_callTy call_list_of (by rfl) B.list_ (by decide +kernel) (pa_cons (pv 1) pa_nil)))
  (pss_one (ps_ret (pe_lc (own := [("_law_turn", 3)]) (g := gName 3) (tt := tYes) (te := tBM K "list" rPopAt (tVar 2) (tCons (tCall spGrab [] E0 (tCons (tVar 0) (tCons (tCB (fun xs H Q => ∃ p ys, xs = [V.ref p] ∧ (SqL K H p ys ∨ SqT K H p ys) ∧ Q (.int ys.length) H) (tCons (tVar 2) tNil)) tNil))) tNil)) rfl sc_shuffled.nd (pi_list (pe_callTy call_list_of (by rfl) B.list_ (by decide +kernel) (pa_cons (pv 1) pa_nil))) (blkOk_by (own := [("_law_turn", 3)]) (N := nm_shuffled) (sc := defScope s_shuffled) (by decide +kernel)) (fun _ _ _ _ _ => (pg_name (i := 3) sc_shuffled.nd rfl (.inl rfl))) (fun _ _ _ _ _ => pts_nil) (fun _ _ _ _ _ => (pe_bm PySem.F.plainAttrs_list PySem.F.slot_list_pop PySem.F.type_list_pop mt_popAt (pv 2) (pa_cons (pe_call G_grab (hr.mono (by decide)) (by rfl) g_grab k_grab b_grab .nil pass0 (pa_cons (pv 0) (pa_cons (pe_callB call_len_seq (by rfl) B.len_ (by decide +kernel) (pa_cons (pv 2) pa_nil)) pa_nil))) pa_nil))))))), ?_⟩
  refine ⟨_, rfl, l, xs, rfl, .inl (SqL.of hl), fun w0 nw0 => ?_⟩
  have w0k := hk.ne nw0
  have e0 : (upd H w0 (.lst xs)) w0 = some (.lst xs) := upd_same
  have s0 : Same H (upd H w0 (.lst xs)) := Same.newG nw0
  generalize upd H w0 (.lst xs) = H0 at e0 s0 ⊢
  refine ⟨_, rfl, l, xs, rfl, .inl (SqL.of (s0 _ _ hl)), fun l2 nl2 => ?_⟩
  have l2k := (hk.same s0).ne nl2
  have e2 : (upd H0 l2 (.lst xs)) l2 = some (.lst xs) := upd_same
  have s2 : Same H0 (upd H0 l2 (.lst xs)) := Same.newG nl2
  have l2w : l2 ≠ w0 := fun z => by
    rw [z, e0] at nl2
    cases nl2
  have n2 : H l2 = none := s0.free nl2
  generalize upd H0 l2 (.lst xs) = H1 at e2 s2 ⊢
  refine ⟨l2, rfl, ⟨xs, SqL.of e2⟩, fun D nD => ?_⟩
  have Dk := ((hk.same s0).same s2).ne nD
  have Dw : D ≠ w0 := fun z => by
    rw [z, s2 _ _ e0] at nD
    cases nD
  have D2 : D ≠ l2 := fun z => by
    rw [z, e2] at nD
    cases nD
  have nDH : H D = none := (s0.trans s2).free nD
  refine lc_list (xs := xs) (fun n F => ∃ acc rest, F w0 = some (.lst rest) ∧ F D = some (.lst acc) ∧ (acc ++ rest).Perm xs ∧ acc.length = n ∧ But k H F ∧ F l2 = some (.lst xs)) ?_ (fun n F _ p => ?_) (fun n x F hx p => ?_) (fun F p => ?_)
  · exact ⟨[], xs, by rw [upd_ne Dw.symm]; exact s2 _ _ e0, upd_same, List.Perm.refl _, rfl, (But.same hk ((s0.trans s2).trans (Same.newG nD))), by rw [upd_ne D2.symm]; exact e2⟩
  · obtain ⟨_, _, _, _, _, _, _, z⟩ := p
    exact SqL.of z
  · obtain ⟨acc, rest, hw, hD, hp, hn, bt, h2⟩ := p
    have hlen : acc.length + rest.length = xs.length := by
      have z := hp.length_eq
      rw [List.length_append] at z
      exact z
    have hnx : n < xs.length := (List.getElem?_eq_some_iff.mp hx).1
    refine ⟨rfl, tyes ⟨_, rfl, .inl ⟨rfl, _, SqL.of hw⟩, _, rfl, _, rfl, w0, rest, rfl, .inl (SqL.of hw), k, _, rfl, bt.sack, by omega, by omega, fun F2 j b2 j0 j1 => ?_⟩⟩
    obtain ⟨j, rfl⟩ := Int.eq_ofNat_of_zero_le j0
    have hj : j < rest.length := by omega
    have hw2 := b2.stay _ _ w0k hw
    have hD2 := b2.stay _ _ Dk hD
    have h22 := b2.stay _ _ l2k h2
    refine ⟨w0, rest, j, j, rest[j], rfl, rfl, hw2, by omega, by omega, seq_at hj, List.getElem?_eq_getElem hj, acc, by rw [upd_ne Dw]; exact hD2, small1000 (by omega), acc ++ [rest[j]], rest.eraseIdx j, by rw [upd_ne Dw.symm, upd_same], upd_same, ?_, by rw [List.length_append, hn]; rfl, ?_, by rw [upd_ne D2.symm, upd_ne l2w]; exact h22⟩
    · rw [List.append_assoc]
      exact ((List.Perm.append_left acc (erase_perm rest j hj)).trans hp)
    · exact But.upD nDH Dk (But.upD nw0 w0k (bt.trans b2))
  · obtain ⟨acc, rest, hw, hD, hp, hn, bt, h2⟩ := p
    have hlen : acc.length + rest.length = xs.length := by
      have z := hp.length_eq
      rw [List.length_append] at z
      exact z
    have hr0 : rest = [] := List.eq_nil_of_length_eq_zero (by omega)
    subst hr0
    rw [List.append_nil] at hp
    exact q F D acc bt Dk nDH hD hp
end
end K1

set_option Elab.async false
set_option linter.all false
set_option maxRecDepth 100000
set_option maxHeartbeats 8000000
namespace K1
open PySem PySem.Spec PyProof.Rows L2 Gd Xc
/-! ### values whose repr stays, whatever the store does -/
def Keep (S : Addr → Prop) (H G : Hp) : Prop := ∀ b x, ¬ S b → H b = some x → G b = some x
theorem But.keep {S : Addr → Prop} {k : Addr} {H G : Hp} (h : S k) (a : But k H G) : Keep S H G := fun b x n e => a.stay b x (fun z => n (by rw [z]; exact h)) e
theorem keep_same {S : Addr → Prop} {H G : Hp} (s : Same H G) : Keep S H G := fun b x _ e => s b x e
theorem Keep.trans {S : Addr → Prop} {H G F : Hp} (a : Keep S H G) (b : Keep S G F) : Keep S H F := fun c x n e => b c x n (a c x n e)
/-- a value whose repr stays, whatever is done at S -/
def Vis (K : PySem.W.Frag) (S : Addr → Prop) (H : Hp) (v : V) : Prop := ∀ G, Keep S H G → ∃ z, Sh K G v z
section
variable {K : PySem.W.Frag} {S T : Addr → Prop} {H G : Hp} {a : Addr}
theorem Vis.keep {v : V} (g : Vis K S H v) (h : Keep S H G) : Vis K S G v := fun F hf => g F fun b x n e => hf b x n (h b x n e)
theorem Vis.less {v : V} (g : Vis K S H v) (h : ∀ b, T b → S b) : Vis K T H v := fun F hf => g F fun b x n e => hf b x (fun z => n (h b z)) e
theorem Vis.int {i : Int} (few : i.natAbs < 2 ^ 100) : Vis K S H (.int i) := fun _ _ => ⟨_, .int i (Nat.lt_trans (PySem.Flt.log2_lt_of (by decide) few) (by decide))⟩
theorem Vis.bl (b : Bool) : Vis K S H (.bl b) := fun _ _ => ⟨_, .bl b⟩
theorem Vis.non : Vis K S H .non := fun _ _ => ⟨_, .non⟩
theorem Vis.str {x : Str} (few : (reprText x).length ≤ 100) : Vis K S H (.str x) := fun _ _ => ⟨_, .str x (Nat.le_of_lt (small1000 (by omega)))⟩
theorem Vis.emp (h : H a = some (.dK [])) (ne : ¬ S a) : Vis K S H (.ref a) := fun _ g => ⟨_, .emp (g _ _ ne h)⟩
theorem Vis.tup {xs : List V} {ds : List PyData} (h : H a = some (.tup xs)) (ne : ¬ S a) (hd : ∀ G, DpAll K G xs ds) (h1 : (PyData.tuple ds).showable = true) (h2 : (PyData.tuple ds).hasDict = false) (h3 : (PyData.tuple ds).depth < 60) (h4 : (PyData.tuple ds).shown.length ≤ 500) : Vis K S H (.ref a) :=
  fun G g => ⟨_, .dat (.tup (SqT.of (g _ _ ne h)) (hd G)) h1 h2 h3 (Nat.le_of_lt (small1000 (by omega)))⟩
theorem Vis.lst {xs : List V} {ds : List PyData} (h : H a = some (.lst xs)) (ne : ¬ S a) (hd : ∀ G, DpAll K G xs ds) (h1 : (PyData.list ds).showable = true) (h2 : (PyData.list ds).hasDict = false) (h3 : (PyData.list ds).depth < 60) (h4 : (PyData.list ds).shown.length ≤ 500) : Vis K S H (.ref a) :=
  fun G g => ⟨_, .dat (.lst (SqL.of (g _ _ ne h)) (hd G)) h1 h2 h3 (Nat.le_of_lt (small1000 (by omega)))⟩
end
theorem join_all (P : Nat → Prop) : ∀ cs : List Str, (∀ c ∈ cs, ∀ n ∈ c.cps.toList, P n) → ∀ n ∈ (Str.join (Str.ofString "") cs).cps.toList, P n
  | [], _ => fun n hn => by
    have e : (Str.join (Str.ofString "") []).cps.toList = [] := rfl
    rw [e] at hn
    cases hn
  | [x], h => fun n hn => h x List.mem_cons_self n hn
  | x :: y :: r, h => fun n hn => by
    have e : (Str.join (Str.ofString "") (x :: y :: r)).cps.toList = x.cps.toList ++ ((Str.ofString "").cps.toList ++ (Str.join (Str.ofString "") (y :: r)).cps.toList) := by
      show ((x ++ Str.ofString "") ++ Str.join (Str.ofString "") (y :: r)).cps.toList = _
      show ((x.cps ++ (Str.ofString "").cps) ++ (Str.join (Str.ofString "") (y :: r)).cps).toList = _
      rw [Array.toList_append, Array.toList_append, List.append_assoc]
    rw [e] at hn
    rcases List.mem_append.mp hn with hn | hn
    · exact h x List.mem_cons_self n hn
    · rcases List.mem_append.mp hn with hn | hn
      · have e0 : (Str.ofString "").cps.toList = [] := by decide +kernel
        rw [e0] at hn
        cases hn
      · exact join_all P (y :: r) (fun c hc => h c (List.mem_cons_of_mem _ hc)) n hn
theorem letters_small : ∀ c ∈ letters.cps.toList, c < 16 ^ 8 := by decide +kernel
theorem tt_le (ts : List Str) : (tupleText ts).length ≤ piled ts + 3 := by
  unfold tupleText
  rw [strLen_append, strLen_append]
  have e1 : ((("(" : String) : Str)).length = 1 := rfl
  have e3 : (((if ts.length == 1 then ",)" else ")" : String) : Str)).length ≤ 2 := by split <;> decide
  rw [e1]
  cases ts with
  | nil =>
    have e2 : (Str.join ", " []).length = 0 := rfl
    omega
  | cons t r =>
    have := join_length_add (t :: r) (by simp)
    omega
theorem shown_tup (ds : List PyData) : (PyData.tuple ds).shown = tupleText (PyData.shownAll ds) := by simp only [PyData.shown]
theorem shown_strs : ∀ ss : List Str, PyData.shownAll (ss.map PyData.str) = ss.map reprText
  | [] => by simp only [List.map_nil, PyData.shownAll]
  | x :: r => by simp only [List.map_cons, PyData.shownAll, PyData.shown, shown_strs r]
theorem showable_strs : ∀ ss : List Str, PyData.showableAll (ss.map PyData.str) = true
  | [] => by simp only [List.map_nil, PyData.showableAll]
  | x :: r => by simp only [List.map_cons, PyData.showableAll, PyData.showable, showable_strs r, Bool.and_self]
theorem noDict_strs : ∀ ss : List Str, PyData.hasDictAll (ss.map PyData.str) = false
  | [] => by simp only [List.map_nil, PyData.hasDictAll]
  | x :: r => by simp only [List.map_cons, PyData.hasDictAll, PyData.hasDict, noDict_strs r, Bool.or_self]
theorem depth_strs : ∀ ss : List Str, PyData.depthAll (ss.map PyData.str) = 0
  | [] => by simp only [List.map_nil, PyData.depthAll]
  | x :: r => by simp [PyData.depthAll, PyData.depth, depth_strs r]
theorem dp_strs {K : PySem.W.Frag} {H : Hp} : ∀ ss : List Str, DpAll K H (ss.map V.str) (ss.map PyData.str)
  | [] => .nil
  | x :: r => .cons (.str x) (dp_strs r)
/-- a tuple of at most two short texts -/
theorem Vis.texts {K : PySem.W.Frag} {S : Addr → Prop} {H : Hp} {a : Addr} {ss : List Str} (h : H a = some (.tup (ss.map V.str))) (ne : ¬ S a) (few : ss.length ≤ 2) (sm : ∀ x ∈ ss, (reprText x).length ≤ 100) : Vis K S H (.ref a) := by
  refine Vis.tup h ne (fun G => dp_strs ss) (by simp only [PyData.showable, showable_strs]) (by simp only [PyData.hasDict, noDict_strs]) ?_ ?_
  · have e : (PyData.tuple (ss.map PyData.str)).depth ≤ 1 := by simp [PyData.depth, depth_strs]
    omega
  · rw [shown_tup, shown_strs]
    refine Nat.le_trans (tt_le _) ?_
    rcases ss with _ | ⟨x, _ | ⟨y, _ | ⟨z, r⟩⟩⟩
    · decide
    · have hx := sm x List.mem_cons_self
      simp only [List.map_cons, List.map_nil, piled, List.sum_cons, List.sum_nil]
      omega
    · have hx := sm x List.mem_cons_self
      have hy := sm y (List.mem_cons_of_mem _ List.mem_cons_self)
      simp only [List.map_cons, List.map_nil, piled, List.sum_cons, List.sum_nil]
      omega
    · simp at few
section
variable {P : Program} {w : World} {K : PySem.W.Frag} {mg : Str → Option Value} {base : Heap}
abbrev COne (P : Program) (w : World) (K : PySem.W.Frag) (mg : Str → Option Value) (base : Heap) : Prop := Has P w K mg base 2 "_law_one_of" ["_law_sack_here", "_law_items"] spOne
def spWorth (K : PySem.W.Frag) : Sp := fun vs H Q _ => ∃ (k : Addr) (i : Nat), vs = [.ref k, .int i] ∧ i < 12 ∧ Sack H k ∧ ∀ G v, But k H G → Vis K (fun b => b = k ∨ H b ≠ none) G v → Q v G
theorem pc20 : CPowG 10 20 := ⟨by decide, by decide +kernel⟩
theorem p20 : 0 < (10 : Int) ^ (20 : Int).toNat ∧ (10 : Int) ^ (20 : Int).toNat < 2 ^ 80 := by decide +kernel
theorem ok_worth {f : Addr} {fd : FuncData} (F : Fun K "_law_worth" "_law_worth" s_worth f fd) (B : Blt mg) (C1 : CGrab P w K mg base) (C2 : COne P w K mg base) (C3 : Has P w K mg base 2 "_law_letter" ["_law_sack_here"] spLetter) : FnOk P w K mg base CX0 3 f fd ["_law_sack_here", "_law_lot"] (spWorth K) := by
  obtain ⟨f1, fd1, G_grab, g_grab, k_grab, b_grab⟩ := C1.ex
  obtain ⟨f2, fd2, G_one_of, g_one_of, k_one_of, b_one_of⟩ := C2.ex
  obtain ⟨f3, fd3, G_letter, g_letter, k_letter, b_letter⟩ := C3.ex
  refine F.ok sc_worth (fun vs H Q E h => ?_) (fun cdv A outer s H vs Q E hr h => ?_)
  · obtain ⟨k, i, rfl, _⟩ := h
    rfl
  obtain ⟨k, i, rfl, hi, hk, q⟩ := h
  refine ⟨_, (pss_cons (ps_set (i := 2) sc_worth.nd rfl (.inl rfl) (pe_join pe_str (pe_lc (own := [("_law_at", 5)]) (g := gName 5) (tt := tYes) rfl sc_worth.nd (pi_range1 (by rfl) B.range_ (pa_cons (pe_op op_add pe_int (pe_call G_grab (hr.mono (by decide)) (by rfl) g_grab k_grab b_grab .nil pass0 (pa_cons (pv 0) (pa_cons pe_int pa_nil)))) pa_nil)) (blkOk_by (own := [("_law_at", 5)]) (N := nm_worth) (sc := defScope s_worth) (by decide +kernel)) (fun _ _ _ _ _ => (pg_name (i := 5) sc_worth.nd rfl (.inl rfl))) (fun _ _ _ _ _ => pts_nil) (fun _ _ _ _ _ => (pe_call G_letter (hr.mono (by decide)) (by rfl) g_letter k_letter b_letter .nil pass0 (pa_cons (pv 0) pa_nil))))))
  (pss_cons (ps_if (pt_cmpR op_lt (pv 1) pe_int (nomark _)) (pss_one (ps_ret (pv 2))) pss_nil)
  (pss_cons (ps_set (i := 3) sc_worth.nd rfl (.inl rfl) (pe_call G_grab (hr.mono (by decide)) (by rfl) g_grab k_grab b_grab .nil pass0 (pa_cons (pv 0) (pa_cons (pe_op op_powG pe_int pe_int) pa_nil))))
  (pss_cons (ps_if (pt_cmpR op_eq (pv 1) pe_int (nomark _)) (pss_one (ps_ret (pe_call G_one_of (hr.mono (by decide)) (by rfl) g_one_of k_one_of b_one_of .nil pass0 (pa_cons (pv 0) (pa_cons (pe_lst (pa_cons (pe_tup pa_nil) (pa_cons (pe_tup (pa_cons (pv 2) pa_nil)) (pa_cons (pe_callTy call_tuple_of (by rfl) B.tuple_ (by decide +kernel) (pa_cons (pe_callB cr_sortedS (by rfl) B.sorted_ (by decide +kernel) (pa_cons (pe_lst (pa_cons (pv 2) (pa_cons pe_str pa_nil))) pa_nil)) pa_nil)) pa_nil)))) pa_nil))))) pss_nil)
  (pss_cons (ps_set (i := 4) sc_worth.nd rfl (.inl rfl) (pe_lst (pa_cons (pv 3) (pa_cons (pe_op op_sub pe_int (pv 3)) (pa_cons pe_bl (pa_cons pe_non (pa_cons pe_str (pa_cons (pe_tup pa_nil) (pa_cons (pe_tup (pa_cons pe_int (pa_cons pe_str pa_nil))) (pa_cons (pe_lst (pa_cons pe_str pa_nil)) (pa_cons pe_dnewK pa_nil)))))))))))
  (pss_one (ps_ret (pe_ifExp (pt_cmpR op_in_seq (pv 1) (pe_tup (pa_cons pe_int (pa_cons pe_int pa_nil))) rfl) (pe_call G_one_of (hr.mono (by decide)) (by rfl) g_one_of k_one_of b_one_of .nil pass0 (pa_cons (pv 0) (pa_cons (pv 4) pa_nil))) (pv 3))))))))), ?_⟩
  have nS : ∀ {F : Hp} {t : Addr}, But k H F → F t = none → ¬ (t = k ∨ H t ≠ none) := fun {F t} b n h => h.elim (b.sack.ne n) fun z => z (b.free hk n)
  refine ⟨⟨_, rfl⟩, .ref k, rfl, k, 8, rfl, hk, by decide, by decide, fun G1 n b1 n0 n1 => ⟨1, n, rfl, rfl, 1 + n, rfl, by omega, by omega, fun D nD => ?_⟩⟩
  have Dk : D ≠ k := b1.sack.ne nD
  refine lc_rngG (n := (1 + n).toNat) (But k G1) (fun i acc => ∃ cs : List Str, acc = cs.map V.str ∧ cs.length = i ∧ ∀ c ∈ cs, c.length = 1 ∧ ∀ m ∈ c.cps.toList, m < 16 ^ 8) ((But.same b1.sack (Same.refl G1)).up nD) ⟨[], rfl, rfl, fun c hc => by cases hc⟩ (fun i G2 hi nx => ?_) (fun G2 acc b2 eD ea => ?_)
  · obtain ⟨acc, b2, eD, cs, ea, el, ec⟩ := nx
    refine ⟨rfl, tyes ⟨.ref k, rfl, k, rfl, b2.sack, fun G3 c b3 hc => nx_put (fun F o z => z.upD nD Dk) (b2.trans b3) (b3.stay D _ Dk eD) (by rw [ea, List.length_map, el]; omega) ⟨cs ++ [⟨#[c]⟩], ?_, ?_, ?_⟩⟩⟩
    · rw [ea, List.map_append]
      rfl
    · rw [List.length_append, el]
      rfl
    · intro d hd
      rcases List.mem_append.mp hd with hd | hd
      · exact ec d hd
      · cases List.mem_singleton.mp hd
        exact ⟨rfl, fun m hm => by
          have hm : m ∈ [c] := hm
          cases List.mem_singleton.mp hm
          exact letters_small _ hc⟩
  · obtain ⟨cs, ea, el, ec⟩ := ea
    have sum : ∀ l : List Str, (∀ c ∈ l, c.length = 1) → (l.map (·.length)).sum = l.length := by
      intro l
      induction l with
      | nil => intro _; rfl
      | cons c l ih =>
        intro h
        rw [List.map_cons, List.sum_cons, ih fun d hd => h d (List.mem_cons_of_mem _ hd), h c List.mem_cons_self, List.length_cons]
        omega
    have hcs := sum cs fun c hc => (ec c hc).1
    have hn : (1 + n).toNat ≤ 8 := by omega
    refine ⟨_, D, cs, rfl, rfl, .inl (.inl (.inl (by rw [eD, ea]))), by
      rw [hcs, show (Str.ofString "").length = 0 from rfl]
      omega, ?_⟩
    have tsm : ∀ m ∈ (Txt.join (Str.ofString "") cs).cps.toList, m < 16 ^ 8 := by
      rw [TL.join_eq]
      exact join_all (· < 16 ^ 8) cs fun c hc => (ec c hc).2
    generalize ht : Txt.join (Str.ofString "") cs = text at tsm ⊢
    have tl : text.length ≤ 8 := by
      have z := StrLaws.join_length_le (Str.ofString "") cs
      rw [← TL.join_eq, ht, hcs, show (Str.ofString "").length = 0 from rfl] at z
      omega
    have tr : (reprText text).length ≤ 100 := by
      have z := StrLaws.reprText_len text tsm
      omega
    have b2h : But k H G2 := b1.trans b2
    refine ⟨.int i, rfl, _, _, rfl, rfl, _, rfl, ite2 (fun _ => ?_) (fun _ => ?_)⟩
    · exact ⟨_, rfl, q G2 _ b2h (Vis.str tr)⟩
    · refine ⟨.ref k, rfl, 10, 20, rfl, rfl, pc20, k, _, rfl, b2h.sack, p20.1, p20.2, fun G3 m b3 m0 m1 => ?_⟩
      have b3h := b2h.trans b3
      have hm : m.natAbs < 2 ^ 100 := by
        have := p20.2
        omega
      refine ⟨.int i, rfl, rfl, _, rfl, ite2 (fun _ => ?_) (fun _ => ?_)⟩
      · -- ten
        refine ⟨.ref k, rfl, Nat.zero_le _, fun t0 n0 => ?_⟩
        have y0 : Same G3 (upd G3 t0 (.tup [])) := Same.newG n0
        have e0 : (upd G3 t0 (.tup [])) t0 = some (.tup (([] : List Str).map V.str)) := upd_same
        have k0 := nS b3h n0
        generalize upd G3 t0 (.tup []) = D0 at y0 e0 ⊢
        have s0 := b3h.sack.same y0
        refine ⟨_, rfl, by show 1 ≤ sizeLine; decide, fun t1 n1 => ?_⟩
        have y1 : Same D0 (upd D0 t1 (.tup [.str text])) := Same.newG n1
        have e1 : (upd D0 t1 (.tup [.str text])) t1 = some (.tup ([text].map V.str)) := upd_same
        have k1 := nS (b3h.trans (But.same b3h.sack (y0))) n1
        generalize upd D0 t1 (.tup [.str text]) = D1 at y1 e1 ⊢
        have s1 := s0.same y1
        refine ⟨_, rfl, by show 2 ≤ sizeLine; decide, fun l nl => ?_⟩
        have yl : Same D1 (upd D1 l (.lst [.str text, .str "less"])) := Same.newG nl
        have el : (upd D1 l (.lst [.str text, .str "less"])) l = some (.lst ([text, "less"].map V.str)) := upd_same
        generalize upd D1 l (.lst [.str text, .str "less"]) = Dl at yl el ⊢
        have sl := s1.same yl
        refine ⟨l, [text, "less"], rfl, SqL.of el, (by show 2 < 64; decide), fun ys p perm srt np => ?_⟩
        have yp : Same Dl (upd Dl p (.lst (ys.map V.str))) := Same.newG np
        have ep : (upd Dl p (.lst (ys.map V.str))) p = some (.lst (ys.map V.str)) := upd_same
        generalize upd Dl p (.lst (ys.map V.str)) = Dp at yp ep ⊢
        have sp := sl.same yp
        refine ⟨p, _, rfl, .inl ⟨SqL.of ep, fun t2 n2 => ?_⟩⟩
        have y2 : Same Dp (upd Dp t2 (.tup (ys.map V.str))) := Same.newG n2
        have e2 : (upd Dp t2 (.tup (ys.map V.str))) t2 = some (.tup (ys.map V.str)) := upd_same
        have k2 := nS (b3h.trans (But.same b3h.sack (((y0.trans y1).trans yl).trans yp))) n2
        generalize upd Dp t2 (.tup (ys.map V.str)) = D2 at y2 e2 ⊢
        have s2 := sp.same y2
        refine ⟨by show 3 ≤ sizeLine; decide, fun pl npl => ?_⟩
        have yL : Same D2 (upd D2 pl (.lst [.ref t0, .ref t1, .ref t2])) := Same.newG npl
        have eL : (upd D2 pl (.lst [.ref t0, .ref t1, .ref t2])) pl = some (.lst [.ref t0, .ref t1, .ref t2]) := upd_same
        have kL : pl ≠ k := s2.ne npl
        generalize upd D2 pl (.lst [.ref t0, .ref t1, .ref t2]) = DL at yL eL ⊢
        have sL := s2.same yL
        have z2 := y2.trans yL
        have z1 := (yl.trans yp).trans z2
        have z0 := y1.trans z1
        have zz := y0.trans z0
        have v0 : Vis K (fun b => b = k ∨ H b ≠ none) DL (.ref t0) := (Vis.texts e0 k0 (by decide) (fun x hx => by cases hx)).keep (keep_same z0)
        have v1 : Vis K (fun b => b = k ∨ H b ≠ none) DL (.ref t1) := (Vis.texts e1 k1 (by show 1 ≤ 2; decide) (fun x hx => by
          cases List.mem_singleton.mp hx
          exact tr)).keep (keep_same z1)
        have v2 : Vis K (fun b => b = k ∨ H b ≠ none) DL (.ref t2) := (Vis.texts e2 k2 (by rw [perm.length_eq]; show 2 ≤ 2; decide) (fun x hx => by
          have hx := perm.mem_iff.mp hx
          simp only [List.mem_cons, List.not_mem_nil, or_false] at hx
          rcases hx with rfl | rfl
          · exact tr
          · decide +kernel)).keep (keep_same yL)
        refine ⟨k, pl, _, rfl, sL, kL, eL, by simp, by show 3 ≤ 1000; decide, fun G x bt hx => q G x ((b3h.trans (But.same b3h.sack zz)).trans bt) ?_⟩
        simp only [List.mem_cons, List.not_mem_nil, or_false] at hx
        rcases hx with rfl | rfl | rfl
        · exact v0.keep (bt.keep (.inl rfl))
        · exact v1.keep (bt.keep (.inl rfl))
        · exact v2.keep (bt.keep (.inl rfl))
      · refine ⟨_, rfl, _, rfl, _, _, rfl, rfl, Nat.zero_le _, fun t0 n0 => ?_⟩
        have y0 : Same G3 (upd G3 t0 (.tup [])) := Same.newG n0
        have e0 : (upd G3 t0 (.tup [])) t0 = some (.tup (([] : List Str).map V.str)) := upd_same
        have k0 := nS b3h n0
        generalize upd G3 t0 (.tup []) = D0 at y0 e0 ⊢
        have s0 := b3h.sack.same y0
        refine ⟨by show 2 ≤ sizeLine; decide, fun t1 n1 => ?_⟩
        have y1 : Same D0 (upd D0 t1 (.tup [.int 0, .str "a"])) := Same.newG n1
        have e1 : (upd D0 t1 (.tup [.int 0, .str "a"])) t1 = some (.tup [.int 0, .str "a"]) := upd_same
        have k1 := nS (b3h.trans (But.same b3h.sack (y0))) n1
        generalize upd D0 t1 (.tup [.int 0, .str "a"]) = D1 at y1 e1 ⊢
        have s1 := s0.same y1
        refine ⟨by show 1 ≤ sizeLine; decide, fun t2 n2 => ?_⟩
        have y2 : Same D1 (upd D1 t2 (.lst [.str "a"])) := Same.newG n2
        have e2 : (upd D1 t2 (.lst [.str "a"])) t2 = some (.lst [.str "a"]) := upd_same
        have k2 := nS (b3h.trans (But.same b3h.sack (y0.trans y1))) n2
        generalize upd D1 t2 (.lst [.str "a"]) = D2 at y2 e2 ⊢
        have s2 := s1.same y2
        refine fun t3 n3 => ?_
        have y3 : Same D2 (upd D2 t3 (.dK [])) := Same.newG n3
        have e3 : (upd D2 t3 (.dK [])) t3 = some (.dK []) := upd_same
        have k3 := nS (b3h.trans (But.same b3h.sack ((y0.trans y1).trans y2))) n3
        generalize upd D2 t3 (.dK []) = D3 at y3 e3 ⊢
        have s3 := s2.same y3
        refine ⟨by show 9 ≤ sizeLine; decide, fun pl npl => ?_⟩
        have yL : Same D3 (upd D3 pl (.lst [.int m, .int (0 - m), .bl true, .non, .str "x", .ref t0, .ref t1, .ref t2, .ref t3])) := Same.newG npl
        have eL : (upd D3 pl (.lst [.int m, .int (0 - m), .bl true, .non, .str "x", .ref t0, .ref t1, .ref t2, .ref t3])) pl = some (.lst [.int m, .int (0 - m), .bl true, .non, .str "x", .ref t0, .ref t1, .ref t2, .ref t3]) := upd_same
        have kL : pl ≠ k := s3.ne npl
        generalize upd D3 pl (.lst [.int m, .int (0 - m), .bl true, .non, .str "x", .ref t0, .ref t1, .ref t2, .ref t3]) = DL at yL eL ⊢
        have sL := s3.same yL
        refine ⟨_, rfl, by show 2 ≤ sizeLine; decide, fun tq nq => ?_⟩
        have yq : Same DL (upd DL tq (.tup [.int 6, .int 7])) := Same.newG nq
        have eq' : (upd DL tq (.tup [.int 6, .int 7])) tq = some (.tup [.int 6, .int 7]) := upd_same
        generalize upd DL tq (.tup [.int 6, .int 7]) = DQ at yq eq' ⊢
        have sQ := sL.same yq
        have z3 := yL.trans yq
        have z2 := y3.trans z3
        have z1 := y2.trans z2
        have z0 := y1.trans z1
        have zz := y0.trans z0
        have bq : But k H DQ := b3h.trans (But.same b3h.sack zz)
        refine ⟨tq, _, rfl, .inr (SqT.of eq'), rfl, rfl, _, rfl, ite2 (fun _ => ?_) (fun _ => ?_)⟩
        · have v0 : Vis K (fun b => b = k ∨ H b ≠ none) DQ (.ref t0) := (Vis.texts e0 k0 (by decide) (fun x hx => by cases hx)).keep (keep_same z0)
          have v1 : Vis K (fun b => b = k ∨ H b ≠ none) DQ (.ref t1) := (Vis.tup e1 k1 (ds := [.int 0, .str "a"]) (fun G => .cons (.int 0) (.cons (.str "a") .nil)) (by decide +kernel) (by decide +kernel) (by decide +kernel) (by decide +kernel)).keep (keep_same z1)
          have v2 : Vis K (fun b => b = k ∨ H b ≠ none) DQ (.ref t2) := (Vis.lst e2 k2 (ds := [.str "a"]) (fun G => .cons (.str "a") .nil) (by decide +kernel) (by decide +kernel) (by decide +kernel) (by decide +kernel)).keep (keep_same z2)
          have v3 : Vis K (fun b => b = k ∨ H b ≠ none) DQ (.ref t3) := (Vis.emp e3 k3).keep (keep_same z3)
          have w1 : Vis K (fun b => b = k ∨ H b ≠ none) DQ (.int m) := Vis.int hm
          have w2 : Vis K (fun b => b = k ∨ H b ≠ none) DQ (.int (0 - m)) := Vis.int (by omega)
          have w3 : Vis K (fun b => b = k ∨ H b ≠ none) DQ (.bl true) := Vis.bl _
          have w4 : Vis K (fun b => b = k ∨ H b ≠ none) DQ .non := Vis.non
          have w5 : Vis K (fun b => b = k ∨ H b ≠ none) DQ (.str "x") := Vis.str (by decide +kernel)
          refine ⟨_, rfl, _, rfl, k, pl, _, rfl, sQ, kL, yq _ _ eL, by simp, by show 9 ≤ 1000; decide, fun G x bt hx => q G x (bq.trans bt) (Vis.keep ?_ (bt.keep (.inl rfl)))⟩
          simp only [List.mem_cons, List.not_mem_nil, or_false] at hx
          rcases hx with rfl | rfl | rfl | rfl | rfl | rfl | rfl | rfl | rfl <;> assumption
        · exact ⟨_, rfl, q DQ _ bq (Vis.int hm)⟩
end
end K1

set_option Elab.async false
set_option linter.all false
set_option maxRecDepth 100000
set_option maxHeartbeats 8000000
namespace K1
open PySem PySem.Spec PyProof.Rows L2 Gd Xc
/-- one record of the list that is built -/
def Rec (K : PySem.W.Frag) (cl : Nat → Addr) (S : Addr → Prop) (F : Hp) (r : V) : Prop := ∃ (t e : Addr) (i : Nat) (v : V), r = .ref t ∧ i < 12 ∧ F t = some (.tup [.int i, v, .ref e]) ∧ Held F e (cl i) (fldOf i v) ∧ Vis K S F v
theorem Rec.keep {K : PySem.W.Frag} {cl : Nat → Addr} {S : Addr → Prop} {F G : Hp} {r : V} (h : Rec K cl S F r) (hS : ∀ b, S b → ∃ xs, F b = some (.lst xs)) (k : Keep S F G) : Rec K cl S G r := by
  obtain ⟨t, e, i, v, rfl, hi, ht, hh, hv⟩ := h
  have no : ∀ {b : Addr} {o : HO}, F b = some o → (∀ xs, o ≠ .lst xs) → ¬ S b := fun {b o} hb ho z => by
    obtain ⟨xs, hx⟩ := hS b z
    rw [hb] at hx
    exact ho xs (Option.some.inj hx)
  refine ⟨t, e, i, v, rfl, hi, k _ _ (no ht fun xs z => by cases z) ht, ?_, hv.keep k⟩
  unfold fldOf at hh ⊢
  split at hh
  · rename_i h5
    rw [if_pos h5]
    exact k _ _ (no hh fun xs z => by
      have z' : HO.ext _ = HO.lst xs := z
      cases z') hh
  · rename_i h5
    rw [if_neg h5]
    obtain ⟨d, h1, h2⟩ := hh
    exact ⟨d, k _ _ (no h1 fun xs z => by
      have z' : HO.ext _ = HO.lst xs := z
      cases z') h1, k _ _ (no h2 fun xs z => by
      have z' : HO.ext _ = HO.lst xs := z
      cases z') h2⟩
theorem lots : ∀ y ∈ (List.replicate (2 : Int).toNat (rgV 0 12)).flatten, ∃ i : Nat, i < 12 ∧ y = .int i := by
  intro y hy
  obtain ⟨l, hl, hy⟩ := List.mem_flatten.mp hy
  have e := (List.mem_replicate.mp hl).2
  subst e
  unfold rgV at hy
  obtain ⟨i, hi, rfl⟩ := List.mem_map.mp hy
  have hi : i < 12 := List.mem_range.mp hi
  exact ⟨i, hi, by rw [Int.zero_add]⟩
theorem lots_len : (List.replicate (2 : Int).toNat (rgV 0 12)).flatten.length = 24 := by decide +kernel
/-- what classes and bases are shown as -/
def dataOf (i : Nat) : PyData := .list [.list ((List.range 13).map fun j => .bool (isE i j)), .list ((List.range 7).map fun j => .bool (decide (j ∈ bSome i)))]
theorem data_ok {i : Nat} (hi : i < 12) : (dataOf i).showable = true ∧ (dataOf i).hasDict = false ∧ (dataOf i).depth < 60 ∧ (dataOf i).shown.length ≤ sizeLine := by
  rcases twelve hi with rfl | rfl | rfl | rfl | rfl | rfl | rfl | rfl | rfl | rfl | rfl | rfl <;> refine ⟨by decide +kernel, by decide +kernel, by decide +kernel, by decide +kernel⟩
theorem dp_bools {K : PySem.W.Frag} {H : Hp} : ∀ bs : List Bool, DpAll K H (bs.map V.bl) (bs.map PyData.bool)
  | [] => .nil
  | b :: r => .cons (.bl b) (dp_bools r)
theorem dp_rows {K : PySem.W.Frag} {H : Hp} {p p1 p2 : Addr} {i : Nat} (e : H p = some (.lst [.ref p1, .ref p2])) (e1 : H p1 = some (.lst (rowC i))) (e2 : H p2 = some (.lst (rowB i))) : Dp K H (.ref p) (dataOf i) :=
  .lst (SqL.of e) (.cons (.lst (SqL.of e1) (dp_bools ((List.range 13).map (isE i)))) (.cons (.lst (SqL.of e2) (dp_bools ((List.range 7).map fun j => decide (j ∈ bSome i)))) .nil))
section
variable {P : Program} {w : World} {K : PySem.W.Frag} {mg : Str → Option Value} {base : Heap} {cl : Nat → Addr}
structure Defs (P : Program) (w : World) (K : PySem.W.Frag) (mg : Str → Option Value) (base : Heap) (cl : Nat → Addr) : Prop where
  shuf : Has P w K mg base 2 "_law_shuffled" ["_law_sack_here", "_law_items"] spShuf
  worth : Has P w K mg base 3 "_law_worth" ["_law_sack_here", "_law_lot"] (spWorth K)
  made : Has P w K mg base 3 "_law_made_one" ["_law_lot", "_law_value"] (spMade cl)
  caught : Has P w K mg base 4 "_law_caught" ["_law_lot", "_law_value"] spCaught
  byBase : Has P w K mg base 4 "_law_is_caught_by_base" ["_law_lot", "_law_value"] spByBase
  classes : Has P w K mg base 1 "_law_classes" ["_law_error"] (spClasses cl)
  bases : Has P w K mg base 1 "_law_bases" ["_law_error"] (spBases cl)
  due : Has P w K mg base 1 "_law_due" ["_law_lot"] spDue
  kept : ∃ (f : Addr) (fd : FuncData), FnG P w K mg base CX0 4 f fd ["_law_lot", "_law_error", "_law_value"] (spKept K cl) ∧ mg "_law_is_kept" = some (.ref f) ∧ PySem.W.keepIn K (.ref f) = true ∧ Binds K fd ["_law_lot", "_law_error", "_law_value"] []
def spCell : Sp := fun vs H Q _ => ∃ k, vs = [.ref k] ∧ Sack H k ∧ ∀ G, But k H G → Q (.bl true) G
theorem ok_cell {f : Addr} {fd : FuncData} (F : Fun K "_law_cell_right" "_law_cell_right" s_cell_right f fd) (B : Blt mg) (C : Defs P w K mg base cl) : FnG P w K mg base CX0 5 f fd ["_law_sack_here"] spCell := by
  obtain ⟨f1, fd1, G_shuffled, g_shuffled, k_shuffled, b_shuffled⟩ := C.shuf.ex
  obtain ⟨f2, fd2, G_worth, g_worth, k_worth, b_worth⟩ := C.worth.ex
  obtain ⟨f3, fd3, G_made_one, g_made_one, k_made_one, b_made_one⟩ := C.made.ex
  obtain ⟨f4, fd4, G_caught, g_caught, k_caught, b_caught⟩ := C.caught.ex
  obtain ⟨f5, fd5, G_is_caught_by_base, g_is_caught_by_base, k_is_caught_by_base, b_is_caught_by_base⟩ := C.byBase.ex
  obtain ⟨f6, fd6, G_classes, g_classes, k_classes, b_classes⟩ := C.classes.ex
  obtain ⟨f7, fd7, G_bases, g_bases, k_bases, b_bases⟩ := C.bases.ex
  obtain ⟨f8, fd8, G_due, g_due, k_due, b_due⟩ := C.due.ex
  obtain ⟨f9, fd9, G_is_kept, g_is_kept, k_is_kept, b_is_kept⟩ := C.kept
  refine def_ok F sc_cell_right (fun vs H Q E h => ?_) (fun cdv A outer s H vs Q E hr hgd0 h => ?_)
  · obtain ⟨k, rfl, _⟩ := h
    rfl
  obtain ⟨k, rfl, hk, q⟩ := h
  have hgd : (A.deeper (envOfC "_law_cell_right" (defScope s_cell_right) s.heap.objs.size f cdv)).guards = some [] := hgd0
  refine ⟨_, (pss_cons (ps_set (i := 1) sc_cell_right.nd rfl (.inl rfl) (pe_lst pa_nil))
  (pss_cons (ps_for PassesOwn.never rfl (pi_list (pe_call G_shuffled (hr.mono (by decide)) (by rfl) g_shuffled k_shuffled b_shuffled .nil pass0 (pa_cons (pv 0) (pa_cons (pe_op op_rep (pe_listRg rfl (by rfl) B.list_ (prg_1 (by rfl) B.range_ pe_int)) pe_int) pa_nil)))) (pg_name (i := 2) sc_cell_right.nd rfl (.inl rfl)) (pss_cons (ps_set (i := 3) sc_cell_right.nd rfl (.inl rfl) (pe_call G_worth (hr.mono (by decide)) (by rfl) g_worth k_worth b_worth .nil pass0 (pa_cons (pv 0) (pa_cons (pv 2) pa_nil))))
  (pss_cons (ps_expr (pe_bm PySem.F.plainAttrs_list PySem.F.slot_list_append PySem.F.type_list_append mt_append (pv 1) (pa_cons (pe_tup (pa_cons (pv 2) (pa_cons (pv 3) (pa_cons (pe_call G_made_one (hr.mono (by decide)) (by rfl) g_made_one k_made_one b_made_one .nil pass0 (pa_cons (pv 2) (pa_cons (pv 3) pa_nil))) pa_nil)))) pa_nil)))
  (pss_one (ps_if (PW.pt (pw_or (pt_cmpR op_ne (pe_call G_caught (hr.mono (by decide)) (by rfl) g_caught k_caught b_caught .nil pass0 (pa_cons (pv 2) (pa_cons (pv 3) pa_nil))) (pv 2) (nomark _)) (pw_or1 (pt_not (pt_val (pe_call G_is_caught_by_base (hr.mono (by decide)) (by rfl) g_is_caught_by_base k_is_caught_by_base b_is_caught_by_base .nil pass0 (pa_cons (pv 2) (pa_cons (pv 3) pa_nil)))))))) (pss_one (ps_ret pe_bl)) pss_nil)))))
  (pss_cons (ps_for PassesOwn.never rfl (pi_list (pv 1)) (pg_tup rfl (pgs_cons (pg_name (i := 2) sc_cell_right.nd rfl (.inl rfl)) (pgs_cons (pg_name (i := 3) sc_cell_right.nd rfl (.inl rfl)) (pgs_cons (pg_name (i := 4) sc_cell_right.nd rfl (.inl rfl)) pgs_nil)))) (pss_one (ps_if (PW.pt (pw_or (pt_cmpR op_ne (pe_callB (call_repr hgd hr.units) (by rfl) B.repr_ (by decide +kernel) (pa_cons (pe_lst (pa_cons (pe_call G_classes (hr.mono (by decide)) (by rfl) g_classes k_classes b_classes .nil pass0 (pa_cons (pv 4) pa_nil)) (pa_cons (pe_call G_bases (hr.mono (by decide)) (by rfl) g_bases k_bases b_bases .nil pass0 (pa_cons (pv 4) pa_nil)) pa_nil))) pa_nil)) (pe_callB (call_repr hgd hr.units) (by rfl) B.repr_ (by decide +kernel) (pa_cons (pe_call G_due (hr.mono (by decide)) (by rfl) g_due k_due b_due .nil pass0 (pa_cons (pv 2) pa_nil)) pa_nil)) (nomark _)) (pw_or1 (pt_not (pt_val (call_ok G_is_kept (hr.mono (by decide)) hgd (by rfl) g_is_kept k_is_kept b_is_kept pass0 (pa_cons (pv 2) (pa_cons (pv 4) (pa_cons (pv 3) pa_nil))))))))) (pss_one (ps_ret pe_bl)) pss_nil)))
  (pss_one (ps_ret pe_bl))))), ?_⟩
  refine ⟨Nat.zero_le _, fun pf nf => ?_⟩
  have kf : pf ≠ k := hk.ne nf
  have b0 : But k H (upd H pf (.lst [])) := (But.same hk (Same.refl H)).up nf
  have f0 : (upd H pf (.lst [])) pf = some (.lst []) := upd_same
  generalize upd H pf (.lst []) = H0 at b0 f0 ⊢
  refine ⟨_, rfl, 12, rfl, RgOk.of_le (by decide) (by decide) (by decide) (by decide), fun q1 n1 => ?_⟩
  have y1 : Same H0 (upd H0 q1 (.lst (rgV 0 12))) := Same.newG n1
  have e1 : (upd H0 q1 (.lst (rgV 0 12))) q1 = some (.lst (rgV 0 12)) := upd_same
  generalize upd H0 q1 (.lst (rgV 0 12)) = H1 at y1 e1 ⊢
  refine ⟨q1, 2, rgV 0 12, rfl, rfl, e1, by decide, by decide, by rw [rgV_length]; show 24 ≤ sizeLine; decide, fun p2 n2 => ?_⟩
  have y2 : Same H1 (upd H1 p2 (.lst (List.replicate (2 : Int).toNat (rgV 0 12)).flatten)) := Same.newG n2
  have e2 : (upd H1 p2 (.lst (List.replicate (2 : Int).toNat (rgV 0 12)).flatten)) p2 = some (.lst (List.replicate (2 : Int).toNat (rgV 0 12)).flatten) := upd_same
  have s1 := b0.sack.same y1
  have k2 : p2 ≠ k := s1.ne n2
  generalize upd H1 p2 (.lst (List.replicate (2 : Int).toNat (rgV 0 12)).flatten) = H2 at y2 e2 ⊢
  have s2 := s1.same y2
  have f2 := y2 _ _ (y1 _ _ f0)
  have b2 : But k H H2 := b0.trans (But.same b0.sack (y1.trans y2))
  refine ⟨k, p2, _, rfl, s2, k2, e2, by rw [lots_len]; decide, fun G ls ys bt lk nls el perm => ?_⟩
  have hys : ∀ y ∈ ys, ∃ i : Nat, i < 12 ∧ y = .int i := fun y hy => lots y (perm.mem_iff.mp hy)
  have lf : ls ≠ pf := fun z => by
    rw [z, f2] at nls
    cases nls
  have bG := b2.trans bt
  have fG := bt.stay _ _ kf f2
  have hS : ∀ {F : Hp} {recs : List V}, Sack F k → F pf = some (.lst recs) → ∀ b, (b = k ∨ b = pf) → ∃ xs, F b = some (.lst xs) := fun {F recs} sk hp b hb => by
    rcases hb with rfl | rfl
    · obtain ⟨x, y, z, e, _⟩ := sk
      exact ⟨_, e⟩
    · exact ⟨_, hp⟩
  refine ⟨ls, rfl, ⟨ys, SqL.of el⟩, for_list (xs := ys) (fun n σ F => ∃ recs y2 y3 y4, σ = [some (.ref k), some (.ref pf), y2, y3, y4] ∧ But k H F ∧ F pf = some (.lst recs) ∧ recs.length = n ∧ F ls = some (.lst ys) ∧ ∀ r ∈ recs, Rec K cl (fun b => b = k ∨ b = pf) F r) ?_ (fun n σ F _ p => ?_) (fun n x σ F hx p => ?_) (fun σ F p => ?_)⟩
  · exact ⟨[], _, _, _, rfl, bG, fG, rfl, el, fun r hr => by cases hr⟩
  · obtain ⟨_, _, _, _, _, _, _, _, z, _⟩ := p
    exact SqL.of z
  · obtain ⟨recs, y2, y3, y4, rfl, bF, hp, hn, hl, hr⟩ := p
    obtain ⟨i, hi, rfl⟩ := hys x (List.mem_of_getElem? hx)
    refine ⟨.ref k, rfl, .int i, rfl, k, i, rfl, hi, bF.sack, fun G1 v b1 vis => ?_⟩
    have hp1 := b1.stay _ _ kf hp
    refine ⟨.ref pf, rfl, .inl ⟨rfl, _, SqL.of hp1⟩, _, rfl, _, rfl, _, rfl, _, rfl, i, v, rfl, hi, fun a G2 s2 na held => ⟨by show 3 ≤ sizeLine; decide, fun t nt => ?_⟩⟩
    have y3 : Same G2 (upd G2 t (.tup [.int i, v, .ref a])) := Same.newG nt
    have e3 : (upd G2 t (.tup [.int i, v, .ref a])) t = some (.tup [.int i, v, .ref a]) := upd_same
    generalize upd G2 t (.tup [.int i, v, .ref a]) = G3 at y3 e3 ⊢
    have s3 : Same G1 G3 := s2.trans y3
    have hp3 := s3 _ _ hp1
    have b3 : But k H G3 := (bF.trans b1).trans (But.same b1.sack s3)
    have hx' : n < ys.length := (List.getElem?_eq_some_iff.mp hx).1
    have l24 : ys.length = 24 := by rw [perm.length_eq, lots_len]
    refine ⟨pf, recs, .ref t, rfl, rfl, hp3, small1000 (by omega), ?_⟩
    have k4 : Keep (fun b => b = k ∨ b = pf) G3 (upd G3 pf (.lst (recs ++ [.ref t]))) := fun b x ne e => by
      rw [upd_ne (fun z => ne (.inr z))]
      exact e
    have b4 : But k H (upd G3 pf (.lst (recs ++ [.ref t]))) := But.upD nf kf b3
    have r3 : Rec K cl (fun b => b = k ∨ b = pf) G3 (.ref t) := ⟨t, a, i, v, rfl, hi, e3, held_same held y3, (vis.less fun b hb => by
      rcases hb with rfl | rfl
      · exact .inl rfl
      · exact .inr (by rw [hp]; exact fun z => nomatch z)).keep (keep_same s3)⟩
    have r4 : ∀ r ∈ recs ++ [.ref t], Rec K cl (fun b => b = k ∨ b = pf) (upd G3 pf (.lst (recs ++ [.ref t]))) r := fun r hm => by
      rcases List.mem_append.mp hm with hm | hm
      · exact (hr r hm).keep (hS bF.sack hp) (((b1.keep (.inl rfl)).trans (keep_same s3)).trans k4)
      · cases List.mem_singleton.mp hm
        exact r3.keep (hS b3.sack hp3) k4
    have h4 : (upd G3 pf (.lst (recs ++ [.ref t]))) pf = some (.lst (recs ++ [.ref t])) := upd_same
    have hl4 : (upd G3 pf (.lst (recs ++ [.ref t]))) ls = some (.lst ys) := by
      rw [upd_ne lf]
      exact s3 _ _ (b1.stay _ _ lk hl)
    generalize upd G3 pf (.lst (recs ++ [.ref t])) = G4 at b4 r4 h4 hl4 ⊢
    refine ⟨_, rfl, _, rfl, i, v, rfl, hi, fun G5 s5 => ⟨_, rfl, rfl, _, rfl, itF rfl ⟨_, rfl, _, rfl, i, v, rfl, hi, fun G6 s6 => ⟨_, rfl, iteF ?_⟩⟩⟩⟩
    have s56 := s5.trans s6
    exact ⟨recs ++ [.ref t], _, _, _, rfl, b4.trans (But.same b4.sack s56), s56 _ _ h4, by rw [List.length_append, hn]; rfl, s56 _ _ hl4, fun r hm => (r4 r hm).keep (hS b4.sack h4) (keep_same s56)⟩
  · obtain ⟨recs, y2, y3, y4, rfl, bF, hp, hn, hl, hr⟩ := p
    refine ⟨.ref pf, rfl, pf, rfl, ⟨recs, SqL.of hp⟩, for_list (xs := recs) (fun n σ G => ∃ y2 y3 y4, σ = [some (.ref k), some (.ref pf), y2, y3, y4] ∧ Same F G) ⟨_, _, _, rfl, Same.refl F⟩ (fun n σ G _ p => ?_) (fun n x σ G hx p => ?_) (fun σ G p => ?_)⟩
    · obtain ⟨_, _, _, _, z⟩ := p
      exact SqL.of (z _ _ hp)
    · obtain ⟨y2, y3, y4, rfl, sG⟩ := p
      obtain ⟨t, e, i, v, rfl, hi, ht, held, vis⟩ := (hr x (List.mem_of_getElem? hx)).keep (hS bF.sack hp) (keep_same sG)
      have ok := data_ok hi
      refine ⟨t, _, rfl, SqT.of ht, rfl, _, _, rfl, _, _, rfl, _, _, rfl, rfl, ?_⟩
      refine ⟨_, rfl, i, v, e, rfl, hi, held, fun p1 G1 s1 e1 => ⟨_, rfl, i, v, e, rfl, hi, held_same held s1, fun p2 G2 s2 e2 => ⟨by show 2 ≤ sizeLine; decide, fun pr npr => ?_⟩⟩⟩
      have y3 : Same G2 (upd G2 pr (.lst [.ref p1, .ref p2])) := Same.newG npr
      have e3 : (upd G2 pr (.lst [.ref p1, .ref p2])) pr = some (.lst [.ref p1, .ref p2]) := upd_same
      generalize upd G2 pr (.lst [.ref p1, .ref p2]) = G3 at y3 e3 ⊢
      refine ⟨pr, dataOf i, rfl, dp_rows e3 (y3 _ _ (s2 _ _ e1)) (y3 _ _ e2), ok.1, ok.2.1, ok.2.2.1, ok.2.2.2, _, rfl, i, rfl, hi, fun q0 q1 q2 G4 s4 a1 a2 a3 => ?_⟩
      have s14 := ((s1.trans s2).trans y3).trans s4
      refine ⟨q0, dataOf i, rfl, dp_rows a1 a2 a3, ok.1, ok.2.1, ok.2.2.1, ok.2.2.2, rfl, _, rfl, itF rfl ⟨_, rfl, _, rfl, _, rfl, i, v, e, rfl, hi, held_same held s14, vis _ (keep_same s14), _, rfl, iteF ?_⟩⟩
      exact ⟨_, _, _, rfl, sG.trans s14⟩
    · obtain ⟨y2, y3, y4, rfl, sG⟩ := p
      exact q G (bF.trans (But.same bF.sack sG))
end
end K1

set_option Elab.async false
set_option linter.all false
set_option maxRecDepth 100000
set_option maxHeartbeats 8000000
namespace K1
open PySem PySem.Spec PyProof.Rows L2 Gd Xc
theorem same_of_but {H G : Hp} {k : Addr} {o : HO} (n : H k = none) (b : But k (upd H k o) G) : Same H G := fun c x e => by
  have ne : c ≠ k := ne_of_none e n
  exact b.stay c x ne (by rw [upd_ne ne]; exact e)
theorem sc_init5 : FnScope ["self", eFld 5] ["self", eFld 5] (defScope (inS 7 0)) := ⟨rfl, rfl, rfl, by decide +kernel, rfl, by decide +kernel, by decide +kernel⟩
theorem sc_init6 : FnScope ["self", eFld 6] ["self", eFld 6] (defScope (inS 8 0)) := ⟨rfl, rfl, rfl, by decide +kernel, rfl, by decide +kernel, by decide +kernel⟩
theorem sc_init7 : FnScope ["self", eFld 7] ["self", eFld 7] (defScope (inS 9 0)) := ⟨rfl, rfl, rfl, by decide +kernel, rfl, by decide +kernel, by decide +kernel⟩
theorem sc_init8 : FnScope ["self", eFld 8] ["self", eFld 8] (defScope (inS 10 0)) := ⟨rfl, rfl, rfl, by decide +kernel, rfl, by decide +kernel, by decide +kernel⟩
theorem sc_init9 : FnScope ["self", eFld 9] ["self", eFld 9] (defScope (inS 11 0)) := ⟨rfl, rfl, rfl, by decide +kernel, rfl, by decide +kernel, by decide +kernel⟩
theorem sc_init10 : FnScope ["self", eFld 10] ["self", eFld 10] (defScope (inS 12 0)) := ⟨rfl, rfl, rfl, by decide +kernel, rfl, by decide +kernel, by decide +kernel⟩
theorem sc_init11 : FnScope ["self", eFld 11] ["self", eFld 11] (defScope (inS 13 0)) := ⟨rfl, rfl, rfl, by decide +kernel, rfl, by decide +kernel, by decide +kernel⟩
theorem sc_str6 : FnScope ["self"] ["self"] (defScope (inS 8 1)) := ⟨rfl, rfl, rfl, by decide +kernel, rfl, by decide +kernel, by decide +kernel⟩
theorem sc_str7 : FnScope ["self"] ["self"] (defScope (inS 9 1)) := ⟨rfl, rfl, rfl, by decide +kernel, rfl, by decide +kernel, by decide +kernel⟩
section
variable {P : Program} {w : World} {K : PySem.W.Frag} {mg : Str → Option Value} {base : Heap}
theorem ok_init5 {f : Addr} {fd : FuncData} (F : Fun K "__init__" "ParseError.__init__" (inS 7 0) f fd) : FnOk P w K mg base CX0 1 f fd ["self", eFld 5] (spInit K (eFld 5)) := by
  refine F.ok sc_init5 (fun vs H Q E h => ?_) (fun cdv A outer s H vs Q E hr h => ?_)
  · obtain ⟨a, C, fI, y, rfl, _⟩ := h
    rfl
  obtain ⟨a, C, fI, y, rfl, T, hno, ea, q⟩ := h
  exact ⟨_, pss_one (ps_set1 (pv 0) (pv 1)), _, rfl, _, rfl, a, C, fI, rfl, T, hno, ea, fun dx nd ne => q dx nd ne⟩
theorem ok_init6 {f : Addr} {fd : FuncData} (F : Fun K "__init__" "InvalidNumber.__init__" (inS 8 0) f fd) : FnOk P w K mg base CX0 1 f fd ["self", eFld 6] (spInit K (eFld 6)) := by
  refine F.ok sc_init6 (fun vs H Q E h => ?_) (fun cdv A outer s H vs Q E hr h => ?_)
  · obtain ⟨a, C, fI, y, rfl, _⟩ := h
    rfl
  obtain ⟨a, C, fI, y, rfl, T, hno, ea, q⟩ := h
  exact ⟨_, pss_one (ps_set1 (pv 0) (pv 1)), _, rfl, _, rfl, a, C, fI, rfl, T, hno, ea, fun dx nd ne => q dx nd ne⟩
theorem ok_init7 {f : Addr} {fd : FuncData} (F : Fun K "__init__" "UnknownName.__init__" (inS 9 0) f fd) : FnOk P w K mg base CX0 1 f fd ["self", eFld 7] (spInit K (eFld 7)) := by
  refine F.ok sc_init7 (fun vs H Q E h => ?_) (fun cdv A outer s H vs Q E hr h => ?_)
  · obtain ⟨a, C, fI, y, rfl, _⟩ := h
    rfl
  obtain ⟨a, C, fI, y, rfl, T, hno, ea, q⟩ := h
  exact ⟨_, pss_one (ps_set1 (pv 0) (pv 1)), _, rfl, _, rfl, a, C, fI, rfl, T, hno, ea, fun dx nd ne => q dx nd ne⟩
theorem ok_init8 {f : Addr} {fd : FuncData} (F : Fun K "__init__" "TooMany.__init__" (inS 10 0) f fd) : FnOk P w K mg base CX0 1 f fd ["self", eFld 8] (spInit K (eFld 8)) := by
  refine F.ok sc_init8 (fun vs H Q E h => ?_) (fun cdv A outer s H vs Q E hr h => ?_)
  · obtain ⟨a, C, fI, y, rfl, _⟩ := h
    rfl
  obtain ⟨a, C, fI, y, rfl, T, hno, ea, q⟩ := h
  exact ⟨_, pss_one (ps_set1 (pv 0) (pv 1)), _, rfl, _, rfl, a, C, fI, rfl, T, hno, ea, fun dx nd ne => q dx nd ne⟩
theorem ok_init9 {f : Addr} {fd : FuncData} (F : Fun K "__init__" "NothingToUndo.__init__" (inS 11 0) f fd) : FnOk P w K mg base CX0 1 f fd ["self", eFld 9] (spInit K (eFld 9)) := by
  refine F.ok sc_init9 (fun vs H Q E h => ?_) (fun cdv A outer s H vs Q E hr h => ?_)
  · obtain ⟨a, C, fI, y, rfl, _⟩ := h
    rfl
  obtain ⟨a, C, fI, y, rfl, T, hno, ea, q⟩ := h
  exact ⟨_, pss_one (ps_set1 (pv 0) (pv 1)), _, rfl, _, rfl, a, C, fI, rfl, T, hno, ea, fun dx nd ne => q dx nd ne⟩
theorem ok_init10 {f : Addr} {fd : FuncData} (F : Fun K "__init__" "NoChooser.__init__" (inS 12 0) f fd) : FnOk P w K mg base CX0 1 f fd ["self", eFld 10] (spInit K (eFld 10)) := by
  refine F.ok sc_init10 (fun vs H Q E h => ?_) (fun cdv A outer s H vs Q E hr h => ?_)
  · obtain ⟨a, C, fI, y, rfl, _⟩ := h
    rfl
  obtain ⟨a, C, fI, y, rfl, T, hno, ea, q⟩ := h
  exact ⟨_, pss_one (ps_set1 (pv 0) (pv 1)), _, rfl, _, rfl, a, C, fI, rfl, T, hno, ea, fun dx nd ne => q dx nd ne⟩
theorem ok_init11 {f : Addr} {fd : FuncData} (F : Fun K "__init__" "Emptied.__init__" (inS 13 0) f fd) : FnOk P w K mg base CX0 1 f fd ["self", eFld 11] (spInit K (eFld 11)) := by
  refine F.ok sc_init11 (fun vs H Q E h => ?_) (fun cdv A outer s H vs Q E hr h => ?_)
  · obtain ⟨a, C, fI, y, rfl, _⟩ := h
    rfl
  obtain ⟨a, C, fI, y, rfl, T, hno, ea, q⟩ := h
  exact ⟨_, pss_one (ps_set1 (pv 0) (pv 1)), _, rfl, _, rfl, a, C, fI, rfl, T, hno, ea, fun dx nd ne => q dx nd ne⟩
theorem ok_str6 {f : Addr} {fd : FuncData} (F : Fun K "__str__" "InvalidNumber.__str__" (inS 8 1) f fd) (B : Blt mg) : FnG P w K mg base CX0 1 f fd ["self"] (spStr K (eFld 6)) := by
  refine def_ok F sc_str6 (fun vs H Q E h => ?_) (fun cdv A outer s H vs Q E hr hgd0 h => ?_)
  · obtain ⟨a, C, v, z, rfl, _⟩ := h
    rfl
  obtain ⟨a, C, v, z, rfl, hh, T, hno, hz, q⟩ := h
  have hgd : (A.deeper (envOfC "InvalidNumber.__str__" (defScope (inS 8 1)) s.heap.objs.size f cdv)).guards = some [] := hgd0
  exact ⟨_, pss_one (ps_ret (pe_callB (call_sh hgd hr.units) (by rfl) B.repr_ (by decide +kernel) (pa_cons (pe_xv (pv 0)) pa_nil))), _, rfl, a, C, v, rfl, hh, T, hno, v, z, rfl, hz, q⟩
theorem ok_str7 {f : Addr} {fd : FuncData} (F : Fun K "__str__" "UnknownName.__str__" (inS 9 1) f fd) (B : Blt mg) : FnG P w K mg base CX0 1 f fd ["self"] (spStr K (eFld 7)) := by
  refine def_ok F sc_str7 (fun vs H Q E h => ?_) (fun cdv A outer s H vs Q E hr hgd0 h => ?_)
  · obtain ⟨a, C, v, z, rfl, _⟩ := h
    rfl
  obtain ⟨a, C, v, z, rfl, hh, T, hno, hz, q⟩ := h
  have hgd : (A.deeper (envOfC "UnknownName.__str__" (defScope (inS 9 1)) s.heap.objs.size f cdv)).guards = some [] := hgd0
  exact ⟨_, pss_one (ps_ret (pe_callB (call_sh hgd hr.units) (by rfl) B.repr_ (by decide +kernel) (pa_cons (pe_xv (pv 0)) pa_nil))), _, rfl, a, C, v, rfl, hh, T, hno, v, z, rfl, hz, q⟩
def spLaw (K : PySem.W.Frag) : Sp := fun vs H Q _ => ∃ (a : Addr) (ns : List Int), vs = [.ref a] ∧ SqL K H a (ns.map V.int) ∧ ns.length ≤ 63 ∧ ∀ G, Q (.bl true) G
theorem ok_law {f fc : Addr} {fd fdc : FuncData} (F : Fun K "law" "law" s_law f fd) (B : Blt mg) (C : Has P w K mg base 1 "_law_sack" ["_law_script", "_law_at"] (spSack K)) (G_cell_right : FnG P w K mg base CX0 5 fc fdc ["_law_sack_here"] spCell) (g_cell_right : mg "_law_cell_right" = some (.ref fc)) (k_cell_right : PySem.W.keepIn K (.ref fc) = true) (b_cell_right : Binds K fdc ["_law_sack_here"] []) : FnG P w K mg base CX0 6 f fd ["_law_script"] (spLaw K) := by
  obtain ⟨f1, fd1, G_sack, g_sack, k_sack, b_sack⟩ := C.ex
  refine def_ok F sc_law (fun vs H Q E h => ?_) (fun cdv A outer s H vs Q E hr hgd0 h => ?_)
  · obtain ⟨a, ns, rfl, _⟩ := h
    rfl
  obtain ⟨a, ns, rfl, hS, few, q⟩ := h
  have hgd : (A.deeper (envOfC "law" (defScope s_law) s.heap.objs.size f cdv)).guards = some [] := hgd0
  refine ⟨_, (pss_cons (ps_for PassesOwn.never rfl (pi_range1 (by rfl) B.range_ (pa_cons (pe_callB (call_max2 rfl) (by rfl) B.max_ (by decide +kernel) (pa_cons pe_int (pa_cons (pe_callB (call_min2 rfl) (by rfl) B.min_ (by decide +kernel) (pa_cons pe_int (pa_cons (pe_callB call_len_seq (by rfl) B.len_ (by decide +kernel) (pa_cons (pv 0) pa_nil)) pa_nil))) pa_nil))) pa_nil)) (pg_name (i := 1) sc_law.nd rfl (.inl rfl)) (pss_one (ps_if (pt_not (pt_val (call_ok G_cell_right (hr.mono (by decide)) hgd (by rfl) g_cell_right k_cell_right b_cell_right pass0 (pa_cons (pe_call G_sack (hr.mono (by decide)) (by rfl) g_sack k_sack b_sack .nil pass0 (pa_cons (pv 0) (pa_cons (pv 1) pa_nil))) pa_nil)))) (pss_one (ps_ret pe_bl)) pss_nil)))
  (pss_one (ps_ret pe_bl))), ?_⟩
  refine ⟨.ref a, rfl, a, _, rfl, .inl hS, _, _, rfl, _, _, rfl, _, rfl, ?_, ?_, for_range (fun i σ G => ∃ y, σ = [some (.ref a), y] ∧ Same H G) ⟨_, rfl, Same.refl H⟩ (fun i σ G _ hW => ?_) (fun σ G _ => q G)⟩
  · rw [List.length_map]
    split <;> split <;> omega
  · rw [List.length_map]
    split <;> split <;> omega
  · obtain ⟨y, rfl, sG⟩ := hW
    refine ⟨.ref a, rfl, .int (0 + (i : Int)), rfl, a, ns, i, by rw [Int.zero_add]; rfl, sG.seq hS, fun k x y z nk x0 x1 => ?_⟩
    have b0 : But k (upd G k (.lst [.int x, .int y, .int z])) (upd G k (.lst [.int x, .int y, .int z])) := ⟨fun _ _ _ e => e, x, y, z, upd_same, x0, x1⟩
    exact ⟨k, rfl, b0.sack, fun G2 b2 => ⟨true, rfl, iteF ⟨_, rfl, sG.trans (same_of_but nk b2)⟩⟩⟩
end
/-! ### what is read of the written part -/
def clOf (l : List Addr) (i : Nat) : Addr := l.getD i 0
def fdOf (l : List FuncData) (d : FuncData) (i : Nat) : FuncData := l.getD i d
def ocB (K : PySem.W.Frag) (D : Addr) : Bool := decide (PySem.W.findIn K (.ref D) "__getattribute__" = some (some (.builtin "BaseException.__getattribute__"))) && (decide (PySem.W.findIn K (.ref D) "__getattr__" = some none) && (decide (PySem.W.subIn K (.ref D) (.type "BaseException") = some true) && (PySem.W.hasDictIn K D &&
  (decide (PySem.W.findIn K (.ref D) "__class__" = some (some (.builtin "object.__class__"))) && (decide (PySem.W.specialIn K (.builtin "object.__class__") "__get__" = some (some (.builtin "getset_descriptor.__get__"))) && (decide (PySem.W.takesIn K (.builtin "object.__class__") = some true) && decide (PySem.W.mroIn K D (.type "object") = some true)))))))
theorem ba {a b : Bool} (h : (a && b) = true) : a = true ∧ b = true := Bool.and_eq_true_iff.mp h
theorem oc_of {K : PySem.W.Frag} {D : Addr} (h : ocB K D = true) : ExcC K D := by
  obtain ⟨h1, h⟩ := ba h
  obtain ⟨h2, h⟩ := ba h
  obtain ⟨h3, h⟩ := ba h
  obtain ⟨h4, h⟩ := ba h
  obtain ⟨h5, h⟩ := ba h
  obtain ⟨h6, h⟩ := ba h
  obtain ⟨h7, h8⟩ := ba h
  exact ⟨of_decide_eq_true h1, of_decide_eq_true h2, of_decide_eq_true h3, h4, of_decide_eq_true h5, of_decide_eq_true h6, of_decide_eq_true h7, of_decide_eq_true h8⟩
def rowOk (K : PySem.W.Frag) (cl : Nat → Addr) (i : Nat) : Bool := ocB K (cl i) && ((List.range 13).all (fun j => decide (PySem.W.kitOne K (.ref (cl i)) (.ref (cl j)) = some (isE i j)) && decide (PySem.W.exmOne K (.ref (cl i)) (.ref (cl j)) = some (isE i j))) &&
  (List.range 7).all fun j => decide (PySem.W.kitOne K (.ref (cl i)) (.type (bTy j)) = some (decide (j ∈ bSome i))))
def plainB (K : PySem.W.Frag) (C : Addr) : Bool := PySem.W.excIn K C veB "ValueError.__new__" && (PySem.W.keepIn K (.ref C) && (decide (PySem.W.subIn K (.ref C) (.type "BaseException") = some true) && decide (PySem.W.typeIn K (.ref C) = some (.type "type"))))
def ownB (K : PySem.W.Frag) (C fI : Addr) (bm : List Value) (newId : String) (fld : Str) : Bool := madeB K C bm newId && (decide (PySem.W.findIn K (.ref C) "__setattr__" = some (some (.builtin "object.__setattr__"))) && (decide (PySem.W.subIn K (.ref C) (.type "BaseException") = some true) && (decide (PySem.W.typeIn K (.ref C) = some (.type "type")) &&
  (PySem.W.keepIn K (.ref C) && (decide (PySem.W.findIn K (.ref C) "__init__" = some (some (.ref fI))) && (decide (PySem.W.typeIn K (.ref fI) = some (.type "function")) && decide (PySem.W.findIn K (.ref C) fld = some none)))))))
theorem own_of {K : PySem.W.Frag} {C fI : Addr} {bm bmB : List Value} {B newId initId : String} {fld : Str} (F : ExcBaseFacts B newId initId bmB) (b : Bases B bm) (h : ownB K C fI bm newId fld = true) : Own K C fI ∧ PySem.W.findIn K (.ref C) fld = some none := by
  obtain ⟨h1, h⟩ := ba h
  obtain ⟨h2, h⟩ := ba h
  obtain ⟨h3, h⟩ := ba h
  obtain ⟨h4, h⟩ := ba h
  obtain ⟨h5, h⟩ := ba h
  obtain ⟨h6, h⟩ := ba h
  obtain ⟨h7, h8⟩ := ba h
  obtain ⟨nm, q, N, bs, sn, sub, ab, col, dd, k0, k1, k2, k3, k5, hl⟩ := made_of h1
  exact ⟨⟨⟨B, newId, initId, bmB, F, nm, q, N, bs, bm, sn, sub, ab, col, dd, k0, k1, k2, k3, k5, hl, b⟩, of_decide_eq_true h2, of_decide_eq_true h3, of_decide_eq_true h4, h5, of_decide_eq_true h6, of_decide_eq_true h7⟩, of_decide_eq_true h8⟩
def strB (K : PySem.W.Frag) (C si : Addr) : Bool := decide (PySem.W.findIn K (.ref C) "__str__" = some (some (.ref si))) && PySem.W.isFn K (.ref si)
theorem all_mk {l : PySem.W.OpenLaw} {w : World} {K : PySem.W.Frag} {h : Heap} {mg : Str → Option Value} {fa : Addr} (X : K.In h) (G : h.Ns mainGlobals mg) (hfa : mg "law" = some (.ref fa))
    {f1 f2 f3 f4 f5 f6 f7 f8 f9 f10 f11 f12 f13 f14 f15 f16 : Addr} {fd1 fd2 fd3 fd4 fd5 fd6 fd7 fd8 fd9 fd10 fd11 fd12 fd13 fd14 fd15 fd16 : FuncData} {c0 c1 c2 c3 c4 c5 c6 c7 c8 c9 c10 c11 c12 : Addr} {g5 g6 g7 g8 g9 g10 g11 s6 s7 : Addr} {gd5 gd6 gd7 gd8 gd9 gd10 gd11 sd6 sd7 : FuncData}
    (e1 : PySem.W.nsIn K mainGlobals "_law_sack" = some (some (.ref f1))) (F1 : Fun K "_law_sack" "_law_sack" s_sack f1 fd1)
    (e2 : PySem.W.nsIn K mainGlobals "_law_grab" = some (some (.ref f2))) (F2 : Fun K "_law_grab" "_law_grab" s_grab f2 fd2)
    (e3 : PySem.W.nsIn K mainGlobals "_law_one_of" = some (some (.ref f3))) (F3 : Fun K "_law_one_of" "_law_one_of" s_one_of f3 fd3)
    (e4 : PySem.W.nsIn K mainGlobals "_law_shuffled" = some (some (.ref f4))) (F4 : Fun K "_law_shuffled" "_law_shuffled" s_shuffled f4 fd4)
    (e5 : PySem.W.nsIn K mainGlobals "_law_letter" = some (some (.ref f5))) (F5 : Fun K "_law_letter" "_law_letter" s_letter f5 fd5)
    (e6 : PySem.W.nsIn K mainGlobals "_law_made_one" = some (some (.ref f6))) (F6 : Fun K "_law_made_one" "_law_made_one" s_made_one f6 fd6)
    (e7 : PySem.W.nsIn K mainGlobals "_law_raised" = some (some (.ref f7))) (F7 : Fun K "_law_raised" "_law_raised" s_raised f7 fd7)
    (e8 : PySem.W.nsIn K mainGlobals "_law_classes" = some (some (.ref f8))) (F8 : Fun K "_law_classes" "_law_classes" s_classes f8 fd8)
    (e9 : PySem.W.nsIn K mainGlobals "_law_bases" = some (some (.ref f9))) (F9 : Fun K "_law_bases" "_law_bases" s_bases f9 fd9)
    (e10 : PySem.W.nsIn K mainGlobals "_law_due" = some (some (.ref f10))) (F10 : Fun K "_law_due" "_law_due" s_due f10 fd10)
    (e11 : PySem.W.nsIn K mainGlobals "_law_is_kept" = some (some (.ref f11))) (F11 : Fun K "_law_is_kept" "_law_is_kept" s_is_kept f11 fd11)
    (e12 : PySem.W.nsIn K mainGlobals "_law_caught" = some (some (.ref f12))) (F12 : Fun K "_law_caught" "_law_caught" s_caught f12 fd12)
    (e13 : PySem.W.nsIn K mainGlobals "_law_is_caught_by_base" = some (some (.ref f13))) (F13 : Fun K "_law_is_caught_by_base" "_law_is_caught_by_base" s_by_base f13 fd13)
    (e14 : PySem.W.nsIn K mainGlobals "_law_worth" = some (some (.ref f14))) (F14 : Fun K "_law_worth" "_law_worth" s_worth f14 fd14)
    (e15 : PySem.W.nsIn K mainGlobals "_law_cell_right" = some (some (.ref f15))) (F15 : Fun K "_law_cell_right" "_law_cell_right" s_cell_right f15 fd15)
    (e16 : PySem.W.nsIn K mainGlobals "law" = some (some (.ref f16))) (F16 : Fun K "law" "law" s_law f16 fd16)
    (bl : ∀ (s : Shared) (v : Value), BindsTo s fd16 ⟨[v], []⟩ [("_law_script", v)])
    (m0 : PySem.W.nsIn K mainGlobals "InvalidName" = some (some (.ref c0)))
    (m1 : PySem.W.nsIn K mainGlobals "InvalidBook" = some (some (.ref c1)))
    (m2 : PySem.W.nsIn K mainGlobals "InvalidNet" = some (some (.ref c2)))
    (m3 : PySem.W.nsIn K mainGlobals "InvalidChooser" = some (some (.ref c3)))
    (m4 : PySem.W.nsIn K mainGlobals "InvalidOperation" = some (some (.ref c4)))
    (m5 : PySem.W.nsIn K mainGlobals "ParseError" = some (some (.ref c5)))
    (m6 : PySem.W.nsIn K mainGlobals "InvalidNumber" = some (some (.ref c6)))
    (m7 : PySem.W.nsIn K mainGlobals "UnknownName" = some (some (.ref c7)))
    (m8 : PySem.W.nsIn K mainGlobals "TooMany" = some (some (.ref c8)))
    (m9 : PySem.W.nsIn K mainGlobals "NothingToUndo" = some (some (.ref c9)))
    (m10 : PySem.W.nsIn K mainGlobals "NoChooser" = some (some (.ref c10)))
    (m11 : PySem.W.nsIn K mainGlobals "Emptied" = some (some (.ref c11)))
    (m12 : PySem.W.nsIn K mainGlobals "ChooserError" = some (some (.ref c12)))
    (i5 : PySem.W.findIn K (.ref c5) "__init__" = some (some (.ref g5))) (I5 : Fun K "__init__" "ParseError.__init__" (inS 7 0) g5 gd5)
    (i6 : PySem.W.findIn K (.ref c6) "__init__" = some (some (.ref g6))) (I6 : Fun K "__init__" "InvalidNumber.__init__" (inS 8 0) g6 gd6)
    (i7 : PySem.W.findIn K (.ref c7) "__init__" = some (some (.ref g7))) (I7 : Fun K "__init__" "UnknownName.__init__" (inS 9 0) g7 gd7)
    (i8 : PySem.W.findIn K (.ref c8) "__init__" = some (some (.ref g8))) (I8 : Fun K "__init__" "TooMany.__init__" (inS 10 0) g8 gd8)
    (i9 : PySem.W.findIn K (.ref c9) "__init__" = some (some (.ref g9))) (I9 : Fun K "__init__" "NothingToUndo.__init__" (inS 11 0) g9 gd9)
    (i10 : PySem.W.findIn K (.ref c10) "__init__" = some (some (.ref g10))) (I10 : Fun K "__init__" "NoChooser.__init__" (inS 12 0) g10 gd10)
    (i11 : PySem.W.findIn K (.ref c11) "__init__" = some (some (.ref g11))) (I11 : Fun K "__init__" "Emptied.__init__" (inS 13 0) g11 gd11)
    (j6 : PySem.W.findIn K (.ref c6) "__str__" = some (some (.ref s6))) (J6 : Fun K "__str__" "InvalidNumber.__str__" (inS 8 1) s6 sd6)
    (j7 : PySem.W.findIn K (.ref c7) "__str__" = some (some (.ref s7))) (J7 : Fun K "__str__" "UnknownName.__str__" (inS 9 1) s7 sd7)
    (r0 : rowOk K (clOf [c0, c1, c2, c3, c4, c5, c6, c7, c8, c9, c10, c11, c12]) 0 = true)
    (r1 : rowOk K (clOf [c0, c1, c2, c3, c4, c5, c6, c7, c8, c9, c10, c11, c12]) 1 = true)
    (r2 : rowOk K (clOf [c0, c1, c2, c3, c4, c5, c6, c7, c8, c9, c10, c11, c12]) 2 = true)
    (r3 : rowOk K (clOf [c0, c1, c2, c3, c4, c5, c6, c7, c8, c9, c10, c11, c12]) 3 = true)
    (r4 : rowOk K (clOf [c0, c1, c2, c3, c4, c5, c6, c7, c8, c9, c10, c11, c12]) 4 = true)
    (r5 : rowOk K (clOf [c0, c1, c2, c3, c4, c5, c6, c7, c8, c9, c10, c11, c12]) 5 = true)
    (r6 : rowOk K (clOf [c0, c1, c2, c3, c4, c5, c6, c7, c8, c9, c10, c11, c12]) 6 = true)
    (r7 : rowOk K (clOf [c0, c1, c2, c3, c4, c5, c6, c7, c8, c9, c10, c11, c12]) 7 = true)
    (r8 : rowOk K (clOf [c0, c1, c2, c3, c4, c5, c6, c7, c8, c9, c10, c11, c12]) 8 = true)
    (r9 : rowOk K (clOf [c0, c1, c2, c3, c4, c5, c6, c7, c8, c9, c10, c11, c12]) 9 = true)
    (r10 : rowOk K (clOf [c0, c1, c2, c3, c4, c5, c6, c7, c8, c9, c10, c11, c12]) 10 = true)
    (r11 : rowOk K (clOf [c0, c1, c2, c3, c4, c5, c6, c7, c8, c9, c10, c11, c12]) 11 = true)
    (p0 : plainB K c0 = true)
    (p1 : plainB K c1 = true)
    (p2 : plainB K c2 = true)
    (p3 : plainB K c3 = true)
    (p4 : plainB K c4 = true)
    (o5 : ownB K c5 g5 [.ref c12, .type "ValueError", .type "Exception", .type "BaseException", .type "object"] "ValueError.__new__" (eFld 5) = true)
    (o6 : ownB K c6 g6 [.type "IndexError", .type "LookupError", .type "Exception", .type "BaseException", .type "object"] "IndexError.__new__" (eFld 6) = true)
    (o7 : ownB K c7 g7 [.type "KeyError", .type "LookupError", .type "Exception", .type "BaseException", .type "object"] "LookupError.__new__" (eFld 7) = true)
    (o8 : ownB K c8 g8 [.type "OverflowError", .type "ArithmeticError", .type "Exception", .type "BaseException", .type "object"] "OverflowError.__new__" (eFld 8) = true)
    (o9 : ownB K c9 g9 [.type "LookupError", .type "Exception", .type "BaseException", .type "object"] "LookupError.__new__" (eFld 9) = true)
    (o10 : ownB K c10 g10 [.type "ArithmeticError", .type "Exception", .type "BaseException", .type "object"] "ArithmeticError.__new__" (eFld 10) = true)
    (o11 : ownB K c11 g11 [.type "ArithmeticError", .type "Exception", .type "BaseException", .type "object"] "ArithmeticError.__new__" (eFld 11) = true)
    (t6 : strB K c6 s6 = true)
    (t7 : strB K c7 s7 = true)
    (z1 : PySem.W.nsIn K mainGlobals "len" = some none)
    (z2 : PySem.W.nsIn K mainGlobals "range" = some none)
    (z3 : PySem.W.nsIn K mainGlobals "isinstance" = some none)
    (z4 : PySem.W.nsIn K mainGlobals "int" = some none)
    (z5 : PySem.W.nsIn K mainGlobals "str" = some none)
    (z6 : PySem.W.nsIn K mainGlobals "tuple" = some none)
    (z7 : PySem.W.nsIn K mainGlobals "list" = some none)
    (z8 : PySem.W.nsIn K mainGlobals "sorted" = some none)
    (z9 : PySem.W.nsIn K mainGlobals "abs" = some none)
    (z10 : PySem.W.nsIn K mainGlobals "max" = some none)
    (z11 : PySem.W.nsIn K mainGlobals "min" = some none)
    (z12 : PySem.W.nsIn K mainGlobals "repr" = some none)
    (z13 : PySem.W.nsIn K mainGlobals "ValueError" = some none)
    (z14 : PySem.W.nsIn K mainGlobals "LookupError" = some none)
    (z15 : PySem.W.nsIn K mainGlobals "IndexError" = some none)
    (z16 : PySem.W.nsIn K mainGlobals "KeyError" = some none)
    (z17 : PySem.W.nsIn K mainGlobals "ArithmeticError" = some none)
    (z18 : PySem.W.nsIn K mainGlobals "OverflowError" = some none)
    (z19 : PySem.W.nsIn K mainGlobals "ZeroDivisionError" = some none)
    : ∃ fd : FuncData, (∀ (s : Shared) (v : Value), BindsTo s fd ⟨[v], []⟩ [("_law_script", v)]) ∧ ∀ base : Heap, K.In base → base.Ns mainGlobals mg → FnG l.prog w K mg base CX0 6 fa fd ["_law_script"] (spLaw K) := by
  have e := hfa.symm.trans (PySem.W.mg_of X G e16)
  cases e
  have B : Blt mg := ⟨PySem.W.mg_none_of X G z1, PySem.W.mg_none_of X G z2, PySem.W.mg_none_of X G z3, PySem.W.mg_none_of X G z4, PySem.W.mg_none_of X G z5, PySem.W.mg_none_of X G z6, PySem.W.mg_none_of X G z7, PySem.W.mg_none_of X G z8, PySem.W.mg_none_of X G z9, PySem.W.mg_none_of X G z10, PySem.W.mg_none_of X G z11, PySem.W.mg_none_of X G z12, PySem.W.mg_none_of X G z13, PySem.W.mg_none_of X G z14, PySem.W.mg_none_of X G z15, PySem.W.mg_none_of X G z16, PySem.W.mg_none_of X G z17, PySem.W.mg_none_of X G z18, PySem.W.mg_none_of X G z19⟩
  refine ⟨fd16, bl, fun base _ _ => ?_⟩
  have O5 := own_of PySem.F.excBase_ValueError bases_VE o5
  have O6 := own_of PySem.F.excBase_IndexError bases_IE o6
  have O7 := own_of PySem.F.excBase_LookupError bases_KE o7
  have O8 := own_of PySem.F.excBase_OverflowError bases_OE o8
  have O9 := own_of PySem.F.excBase_LookupError bases_LE o9
  have O10 := own_of PySem.F.excBase_ArithmeticError bases_AE o10
  have O11 := own_of PySem.F.excBase_ArithmeticError bases_AE o11
  have row : ∀ i, i < 12 → rowOk K (clOf [c0, c1, c2, c3, c4, c5, c6, c7, c8, c9, c10, c11, c12]) i = true := fun i hi => by
    rcases twelve hi with rfl | rfl | rfl | rfl | rfl | rfl | rfl | rfl | rfl | rfl | rfl | rfl <;> assumption
  have five : ∀ i, i < 5 → plainB K ((clOf [c0, c1, c2, c3, c4, c5, c6, c7, c8, c9, c10, c11, c12]) i) = true := fun i hi => by
    rcases (by omega : i = 0 ∨ i = 1 ∨ i = 2 ∨ i = 3 ∨ i = 4) with rfl | rfl | rfl | rfl | rfl <;> assumption
  have seven : ∀ i, 5 ≤ i → i < 12 → i = 5 ∨ i = 6 ∨ i = 7 ∨ i = 8 ∨ i = 9 ∨ i = 10 ∨ i = 11 := fun i h1 h2 => by omega
  have T : Errs l.prog w K mg base (clOf [c0, c1, c2, c3, c4, c5, c6, c7, c8, c9, c10, c11, c12]) (clOf [0, 0, 0, 0, 0, g5, g6, g7, g8, g9, g10, g11]) (fdOf [gd5, gd5, gd5, gd5, gd5, gd5, gd6, gd7, gd8, gd9, gd10, gd11] gd5) := {
    g0 := PySem.W.mg_of X G m0
    g1 := PySem.W.mg_of X G m1
    g2 := PySem.W.mg_of X G m2
    g3 := PySem.W.mg_of X G m3
    g4 := PySem.W.mg_of X G m4
    g5 := PySem.W.mg_of X G m5
    g6 := PySem.W.mg_of X G m6
    g7 := PySem.W.mg_of X G m7
    g8 := PySem.W.mg_of X G m8
    g9 := PySem.W.mg_of X G m9
    g10 := PySem.W.mg_of X G m10
    g11 := PySem.W.mg_of X G m11
    g12 := PySem.W.mg_of X G m12
    q := fun i hi => (ba (five i hi)).1
    kp := fun i hi => (ba (ba (five i hi)).2).1
    sb := fun i hi => of_decide_eq_true (ba (ba (ba (five i hi)).2).2).1
    ty := fun i hi => of_decide_eq_true (ba (ba (ba (five i hi)).2).2).2
    own := fun i h1 h2 => by
      rcases seven i h1 h2 with rfl | rfl | rfl | rfl | rfl | rfl | rfl
      · exact O5.1
      · exact O6.1
      · exact O7.1
      · exact O8.1
      · exact O9.1
      · exact O10.1
      · exact O11.1
    ini := fun i h1 h2 => by
      rcases seven i h1 h2 with rfl | rfl | rfl | rfl | rfl | rfl | rfl
      · exact ok_init5 I5
      · exact ok_init6 I6
      · exact ok_init7 I7
      · exact ok_init8 I8
      · exact ok_init9 I9
      · exact ok_init10 I10
      · exact ok_init11 I11
    bnd := fun i h1 h2 => by
      rcases seven i h1 h2 with rfl | rfl | rfl | rfl | rfl | rfl | rfl
      · exact I5.binds fun _ _ _ _ _ _ us hl => match us, hl with | [_, _], _ => rfl
      · exact I6.binds fun _ _ _ _ _ _ us hl => match us, hl with | [_, _], _ => rfl
      · exact I7.binds fun _ _ _ _ _ _ us hl => match us, hl with | [_, _], _ => rfl
      · exact I8.binds fun _ _ _ _ _ _ us hl => match us, hl with | [_, _], _ => rfl
      · exact I9.binds fun _ _ _ _ _ _ us hl => match us, hl with | [_, _], _ => rfl
      · exact I10.binds fun _ _ _ _ _ _ us hl => match us, hl with | [_, _], _ => rfl
      · exact I11.binds fun _ _ _ _ _ _ us hl => match us, hl with | [_, _], _ => rfl
    hno := fun i h1 h2 => by
      rcases seven i h1 h2 with rfl | rfl | rfl | rfl | rfl | rfl | rfl
      · exact O5.2
      · exact O6.2
      · exact O7.2
      · exact O8.2
      · exact O9.2
      · exact O10.2
      · exact O11.2
    exC := fun i hi => oc_of (ba (row i hi)).1
    xfC := fun i h1 hi => by
      have C := oc_of (ba (row i hi)).1
      exact ⟨C.hg, C.hk, C.hs, C.hd⟩
    kit := fun i hi j hj => of_decide_eq_true (ba (List.all_eq_true.mp (ba (ba (row i hi)).2).1 j (List.mem_range.mpr hj))).1
    kitB := fun i hi j hj => of_decide_eq_true (List.all_eq_true.mp (ba (ba (row i hi)).2).2 j (List.mem_range.mpr hj))
    exm := fun i hi j hj => of_decide_eq_true (ba (List.all_eq_true.mp (ba (ba (row i hi)).2).1 j (List.mem_range.mpr hj))).2 }
  have S : Strs l.prog w K mg base (clOf [c0, c1, c2, c3, c4, c5, c6, c7, c8, c9, c10, c11, c12]) (clOf [0, 0, 0, 0, 0, 0, s6, s7]) (fdOf [sd6, sd6, sd6, sd6, sd6, sd6, sd6, sd7] sd6) := {
    fs := fun i hi => by
      rcases hi with rfl | rfl
      · exact j6
      · exact j7
    isF := fun i hi => by
      rcases hi with rfl | rfl
      · exact (ba t6).2
      · exact (ba t7).2
    ok := fun i hi => by
      rcases hi with rfl | rfl
      · exact ok_str6 J6 B
      · exact ok_str7 J7 B
    bnd := fun i hi => by
      rcases hi with rfl | rfl
      · exact J6.binds fun _ _ _ _ _ _ us hl => match us, hl with | [_], _ => rfl
      · exact J7.binds fun _ _ _ _ _ _ us hl => match us, hl with | [_], _ => rfl }
  have H1 : Has l.prog w K mg base 1 "_law_sack" ["_law_script", "_law_at"] (spSack K) := ⟨f1, fd1, ok_sack F1 B, PySem.W.mg_of X G e1, F1.kp, F1.binds fun _ _ _ _ _ _ us hl => match us, hl with | [_, _], _ => rfl⟩
  have H2 : CGrab l.prog w K mg base := ⟨f2, fd2, ok_grab F2 B, PySem.W.mg_of X G e2, F2.kp, F2.binds fun _ _ _ _ _ _ us hl => match us, hl with | [_, _], _ => rfl⟩
  have H3 : COne l.prog w K mg base := ⟨f3, fd3, ok_one_of F3 B H2, PySem.W.mg_of X G e3, F3.kp, F3.binds fun _ _ _ _ _ _ us hl => match us, hl with | [_, _], _ => rfl⟩
  have H5 : Has l.prog w K mg base 2 "_law_letter" ["_law_sack_here"] spLetter := ⟨f5, fd5, ok_letter F5 B H2, PySem.W.mg_of X G e5, F5.kp, F5.binds fun _ _ _ _ _ _ us hl => match us, hl with | [_], _ => rfl⟩
  have H7 : CRaised l.prog w K mg base (clOf [c0, c1, c2, c3, c4, c5, c6, c7, c8, c9, c10, c11, c12]) := ⟨f7, fd7, ok_raised F7 T, PySem.W.mg_of X G e7, F7.kp, F7.binds fun _ _ _ _ _ _ us hl => match us, hl with | [_, _], _ => rfl⟩
  have D : Defs l.prog w K mg base (clOf [c0, c1, c2, c3, c4, c5, c6, c7, c8, c9, c10, c11, c12]) := {
    shuf := ⟨f4, fd4, ok_shuffled F4 B H2, PySem.W.mg_of X G e4, F4.kp, F4.binds fun _ _ _ _ _ _ us hl => match us, hl with | [_, _], _ => rfl⟩
    worth := ⟨f14, fd14, ok_worth F14 B H2 H3 H5, PySem.W.mg_of X G e14, F14.kp, F14.binds fun _ _ _ _ _ _ us hl => match us, hl with | [_, _], _ => rfl⟩
    made := ⟨f6, fd6, ok_made_one F6 T, PySem.W.mg_of X G e6, F6.kp, F6.binds fun _ _ _ _ _ _ us hl => match us, hl with | [_, _], _ => rfl⟩
    caught := ⟨f12, fd12, ok_caught F12 B T H7, PySem.W.mg_of X G e12, F12.kp, F12.binds fun _ _ _ _ _ _ us hl => match us, hl with | [_, _], _ => rfl⟩
    byBase := ⟨f13, fd13, ok_by_base F13 B T H7, PySem.W.mg_of X G e13, F13.kp, F13.binds fun _ _ _ _ _ _ us hl => match us, hl with | [_, _], _ => rfl⟩
    classes := ⟨f8, fd8, ok_classes F8 B T, PySem.W.mg_of X G e8, F8.kp, F8.binds fun _ _ _ _ _ _ us hl => match us, hl with | [_], _ => rfl⟩
    bases := ⟨f9, fd9, ok_bases F9 B T, PySem.W.mg_of X G e9, F9.kp, F9.binds fun _ _ _ _ _ _ us hl => match us, hl with | [_], _ => rfl⟩
    due := ⟨f10, fd10, ok_due F10 B, PySem.W.mg_of X G e10, F10.kp, F10.binds fun _ _ _ _ _ _ us hl => match us, hl with | [_], _ => rfl⟩
    kept := ⟨f11, fd11, ok_is_kept F11 B T S, PySem.W.mg_of X G e11, F11.kp, F11.binds fun _ _ _ _ _ _ us hl => match us, hl with | [_, _, _], _ => rfl⟩ }
  exact ok_law F16 B H1 (ok_cell F15 B D) (PySem.W.mg_of X G e15) F15.kp (F15.binds fun _ _ _ _ _ _ us hl => match us, hl with | [_], _ => rfl)
end K1

set_option Elab.async false
set_option linter.all false
set_option maxRecDepth 100000
open PySem PySem.W PyProof.Rows
set_option maxHeartbeats 0 in
theorem PySem.Challenge.cw_setchooser_k01_whole_errors_holds : PySem.Challenge.rw_setchooser_k01_whole_errors.Holds := by
  w_on; o_law; k_head; (case hw => w_witness2)
  k_fill
  refine Gd.walk (l := PySem.Challenge.rw_setchooser_k01_whole_errors) (n := 63) (k := 6) (x := "_law_script") (sp := fun w => K1.spLaw _) rfl (by decide) rfl ⟨rfl, by decide, by decide⟩ (fun w h Y => PySem.W.kIn_of Y) ?F (fun _ _ a ns hl hS => ⟨a, ns, rfl, hS, hl, fun _ => rfl⟩)
  case F =>
    intro w mg fa h KX G hmg
    refine' K1.all_mk KX G hmg ?e1 (L2.fun_mk ?l1 ?c1 ?k1) ?e2 (L2.fun_mk ?l2 ?c2 ?k2) ?e3 (L2.fun_mk ?l3 ?c3 ?k3) ?e4 (L2.fun_mk ?l4 ?c4 ?k4) ?e5 (L2.fun_mk ?l5 ?c5 ?k5) ?e6 (L2.fun_mk ?l6 ?c6 ?k6) ?e7 (L2.fun_mk ?l7 ?c7 ?k7) ?e8 (L2.fun_mk ?l8 ?c8 ?k8) ?e9 (L2.fun_mk ?l9 ?c9 ?k9) ?e10 (L2.fun_mk ?l10 ?c10 ?k10) ?e11 (L2.fun_mk ?l11 ?c11 ?k11) ?e12 (L2.fun_mk ?l12 ?c12 ?k12) ?e13 (L2.fun_mk ?l13 ?c13 ?k13) ?e14 (L2.fun_mk ?l14 ?c14 ?k14) ?e15 (L2.fun_mk ?l15 ?c15 ?k15) ?e16 (L2.fun_mk ?l16 ?c16 ?k16) (fun s v => .of_eq rfl) ?m0 ?m1 ?m2 ?m3 ?m4 ?m5 ?m6 ?m7 ?m8 ?m9 ?m10 ?m11 ?m12 ?i5 (L2.fun_mk ?il5 ?ic5 ?ik5) ?i6 (L2.fun_mk ?il6 ?ic6 ?ik6) ?i7 (L2.fun_mk ?il7 ?ic7 ?ik7) ?i8 (L2.fun_mk ?il8 ?ic8 ?ik8) ?i9 (L2.fun_mk ?il9 ?ic9 ?ik9) ?i10 (L2.fun_mk ?il10 ?ic10 ?ik10) ?i11 (L2.fun_mk ?il11 ?ic11 ?ik11) ?j6 (L2.fun_mk ?jl6 ?jc6 ?jk6) ?j7 (L2.fun_mk ?jl7 ?jc7 ?jk7) ?r0 ?r1 ?r2 ?r3 ?r4 ?r5 ?r6 ?r7 ?r8 ?r9 ?r10 ?r11 ?p0 ?p1 ?p2 ?p3 ?p4 ?o5 ?o6 ?o7 ?o8 ?o9 ?o10 ?o11 ?t6 ?t7 ?z1 ?z2 ?z3 ?z4 ?z5 ?z6 ?z7 ?z8 ?z9 ?z10 ?z11 ?z12 ?z13 ?z14 ?z15 ?z16 ?z17 ?z18 ?z19
    (case e1 => k_is)
    (case l1 => k_is)
    (case c1 => k_is)
    (case k1 => k_is)
    (case e2 => k_is)
    (case l2 => k_is)
    (case c2 => k_is)
    (case k2 => k_is)
    (case e3 => k_is)
    (case l3 => k_is)
    (case c3 => k_is)
    (case k3 => k_is)
    (case e4 => k_is)
    (case l4 => k_is)
    (case c4 => k_is)
    (case k4 => k_is)
    (case e5 => k_is)
    (case l5 => k_is)
    (case c5 => k_is)
    (case k5 => k_is)
    (case e6 => k_is)
    (case l6 => k_is)
    (case c6 => k_is)
    (case k6 => k_is)
    (case e7 => k_is)
    (case l7 => k_is)
    (case c7 => k_is)
    (case k7 => k_is)
    (case e8 => k_is)
    (case l8 => k_is)
    (case c8 => k_is)
    (case k8 => k_is)
    (case e9 => k_is)
    (case l9 => k_is)
    (case c9 => k_is)
    (case k9 => k_is)
    (case e10 => k_is)
    (case l10 => k_is)
    (case c10 => k_is)
    (case k10 => k_is)
    (case e11 => k_is)
    (case l11 => k_is)
    (case c11 => k_is)
    (case k11 => k_is)
    (case e12 => k_is)
    (case l12 => k_is)
    (case c12 => k_is)
    (case k12 => k_is)
    (case e13 => k_is)
    (case l13 => k_is)
    (case c13 => k_is)
    (case k13 => k_is)
    (case e14 => k_is)
    (case l14 => k_is)
    (case c14 => k_is)
    (case k14 => k_is)
    (case e15 => k_is)
    (case l15 => k_is)
    (case c15 => k_is)
    (case k15 => k_is)
    (case e16 => k_is)
    (case l16 => k_is)
    (case c16 => k_is)
    (case k16 => k_is)
    (case m0 => k_is)
    (case m1 => k_is)
    (case m2 => k_is)
    (case m3 => k_is)
    (case m4 => k_is)
    (case m5 => k_is)
    (case m6 => k_is)
    (case m7 => k_is)
    (case m8 => k_is)
    (case m9 => k_is)
    (case m10 => k_is)
    (case m11 => k_is)
    (case m12 => k_is)
    (case i5 => k_is)
    (case il5 => k_is)
    (case ic5 => k_is)
    (case ik5 => k_is)
    (case i6 => k_is)
    (case il6 => k_is)
    (case ic6 => k_is)
    (case ik6 => k_is)
    (case i7 => k_is)
    (case il7 => k_is)
    (case ic7 => k_is)
    (case ik7 => k_is)
    (case i8 => k_is)
    (case il8 => k_is)
    (case ic8 => k_is)
    (case ik8 => k_is)
    (case i9 => k_is)
    (case il9 => k_is)
    (case ic9 => k_is)
    (case ik9 => k_is)
    (case i10 => k_is)
    (case il10 => k_is)
    (case ic10 => k_is)
    (case ik10 => k_is)
    (case i11 => k_is)
    (case il11 => k_is)
    (case ic11 => k_is)
    (case ik11 => k_is)
    (case j6 => k_is)
    (case jl6 => k_is)
    (case jc6 => k_is)
    (case jk6 => k_is)
    (case j7 => k_is)
    (case jl7 => k_is)
    (case jc7 => k_is)
    (case jk7 => k_is)
    (case r0 => kernel_rfl)
    (case r1 => kernel_rfl)
    (case r2 => kernel_rfl)
    (case r3 => kernel_rfl)
    (case r4 => kernel_rfl)
    (case r5 => kernel_rfl)
    (case r6 => kernel_rfl)
    (case r7 => kernel_rfl)
    (case r8 => kernel_rfl)
    (case r9 => kernel_rfl)
    (case r10 => kernel_rfl)
    (case r11 => kernel_rfl)
    (case p0 => kernel_rfl)
    (case p1 => kernel_rfl)
    (case p2 => kernel_rfl)
    (case p3 => kernel_rfl)
    (case p4 => kernel_rfl)
    (case o5 => kernel_rfl)
    (case o6 => kernel_rfl)
    (case o7 => kernel_rfl)
    (case o8 => kernel_rfl)
    (case o9 => kernel_rfl)
    (case o10 => kernel_rfl)
    (case o11 => kernel_rfl)
    (case t6 => kernel_rfl)
    (case t7 => kernel_rfl)
    (case z1 => k_is)
    (case z2 => k_is)
    (case z3 => k_is)
    (case z4 => k_is)
    (case z5 => k_is)
    (case z6 => k_is)
    (case z7 => k_is)
    (case z8 => k_is)
    (case z9 => k_is)
    (case z10 => k_is)
    (case z11 => k_is)
    (case z12 => k_is)
    (case z13 => k_is)
    (case z14 => k_is)
    (case z15 => k_is)
    (case z16 => k_is)
    (case z17 => k_is)
    (case z18 => k_is)
    (case z19 => k_is)
