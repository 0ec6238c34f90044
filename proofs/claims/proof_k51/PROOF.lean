import PyProof.Rows.All
import Wide.All
import OpenK.AllK
import Wide.FinOn
import HandS.Base
import HandS.Call
import HandS.Ends
import HandS.Words
import HandS.List
import PyProof.EqAt
import PyProof.EqKinds
import PyProof.TupleCall
import KE.KRevSl
import HandS.SetFor
import HandS.Strs
import HandS.Wide
import HandS.ForMost
import HandS.IsInst
import HandS.Zip
import HandS.TupAny
import PyProof.ListStr
import HandS.Conv
import HandS.More
import HandS.SortRule
import HandS.SortInts
import HandS.OwnEq
import HandS.IterVal
import KE.KFmtOwn
import KE.KCallOwn
import KE.KOwnIter
import HandS.DictComp
import KE.KEqNest
import KE.Datum
import PyProof.ReprRoads
import KE.LtSeq
import KE.KeyNested
import HandS.NamedTupSort
import HandS.Exc
import HandS.ExcOwn
import HandS.ExcValue
import HandS.ExcInit
import HandS.ExcIs
import HandS.RaiseMore
import KE.KExcIs
import HandS.ExcField
import HandS.TryMany
import KE.KTryMore
import HandS.Dict
import HandS.TupLen
import HandS.Lambda
import HandS.WordsExc
import HandS.Text
import HandS.Codes
import HandS.WordsList
import HandS.TupMul
import KE.DataMinMax
import HandS.DictTup
import HandS.Star
import HandS.Property
import HandS.EndTab
import KE.KDictZip
import HandS.Deep
import KE.GoesEnum
import PySem.Challenge.RW_setchooser_k51_errors_of_cores
set_option Elab.async false
set_option linter.all false
set_option maxRecDepth 100000
set_option maxHeartbeats 4000000
/-! Gd: defs that are called where no repr is under way (what stands around has no guards), for laws that compare by repr. -/
namespace Gd
open PySem PySem.Spec PyProof.Rows L2
section
variable {P : Program} {w : World} {K : PySem.W.Frag} {mg : Str → Option Value} {base : Heap} {CX : CXT}

/-- as FnOk, wherever no guard stands around -/
structure FnG (P : Program) (w : World) (K : PySem.W.Frag) (mg : Str → Option Value) (base : Heap) (CX : CXT) (k : Nat) (f : Addr) (fd : FuncData) (ps : List Str) (sp : Sp) : Prop where
  lenG : ∀ us H Q E, sp us H Q E → us.length = ps.length
  runG : ∀ (B : Around) (fs : List Env) (t : Shared) (H : Hp) (as : Args) (ws : List Value) (us : List V) (Q : VK) (E : XK), Room k B → B.guards = some [] → Env0 P w K mg base B fs t H →
    BindsTo t fd as (ps.zip ws) → Vals us ws → sp us H Q E → codeAny (model P w) B (.call (.ref f) as) (CR CX fs P w H t Q E) t

theorem FnG.of {k : Nat} {f : Addr} {fd : FuncData} {ps : List Str} {sp : Sp} (F : FnOk P w K mg base CX k f fd ps sp) : FnG P w K mg base CX k f fd ps sp :=
  ⟨F.len, fun B fs t H as ws us Q E r _ e b v q => F.run B fs t H as ws us Q E r e b v q⟩

/-- a def of the text, by its body, where no guard stands around -/
theorem def_ok {x qual : Str} {st : Stmt} {f : Addr} {fd : FuncData} {N ps : List Str} {k : Nat} {sp : Sp} (F : Fun K x qual st f fd) (S : FnScope N ps (defScope st)) (hl : ∀ us H Q E, sp us H Q E → us.length = ps.length)
    (hb : ∀ (cd : Value) (B : Around) (fs : List Env) (t : Shared) (H : Hp) (us : List V) (Q : VK) (E : XK), Room k (B.deeper (envOfC qual (defScope st) t.heap.objs.size f cd)) → B.guards = some [] → sp us H Q E →
      ∃ r, PSs (cxOf CX P w K mg base N qual (defScope st) f cd B fs t H E).nox (defBody st) r ∧ r { nx := fun _ G => Q .non G, rt := Q } (start N us) H) : FnG P w K mg base CX (k + 1) f fd ps sp := by
  obtain ⟨oc, od, kV, doc, pm, an, cd, ct, osl, rfl, lk, hc⟩ := F.ex
  constructor
  · exact hl
  intro B fs t H as ws us Q E hr hg e0 hbd hv hq
  have e0b := e0.bs
  have inK : K.In t.heap := e0.mod.kin.keeps fun b o z => (e0b b o z).1
  have few := hl _ _ _ _ hq
  refine codeAny_call_function hr.depth (inK _ _ lk) rfl S.co S.gen rfl (PySem.W.codeRec_of inK hc) (hbd _ _ _ _ ?_)
  apply wpAny_newFunctionEnv_cells S.kind
  · rintro ⟨n, u⟩ hy
    cases S.par n (List.of_mem_zip hy).1 with
    | inl z => exact Or.inl z
    | inr z => exact Or.inr ⟨z, PySem.W.cellsFrom_some _ _ _ (Or.inl z)⟩
  intro env he t1 hx
  subst he
  constructor
  · exact Heap.NoLimit.keeps (e0.mod.nolimit.keeps fun b o z => (e0b b o z).1) hx.toInCall.keep
  apply codeAny_func
  obtain ⟨r, hpss, hrd⟩ := hb cd B fs t H us Q E (hr.deeper _) hg hq
  have J := inv_start (CX := CX) (E := E) S hr.hd e0 few hv hx
  apply wpAny_mono (hpss.nox.run [] t1 (start N us) H _ J hrd)
  · intro fl t2 h2
    cases fl with
    | next =>
      obtain ⟨σ2, G, J2, z⟩ := h2
      exact ⟨V.non, G, J2.os, J2.bare, J2.base, J2.hok, (rfl : Value.none = Value.none), z⟩
    | ret u =>
      obtain ⟨v, σ2, G, J2, rv, z⟩ := h2
      exact ⟨v, G, J2.os, J2.bare, J2.base, J2.hok, rv, z⟩
    | brk => exact (h2.elim fun _ h3 => h3.elim fun _ h4 => h4.2).elim
    | cont => exact (h2.elim fun _ h3 => h3.elim fun _ h4 => h4.2).elim
  · intro _ _ z
    exact z
end
section
variable {X : Cx} {CX : CXT} {k : Nat} {f : Addr} {fd : FuncData} {ps : List Str} {sp : Sp} {E : XK} {x : Str} {p pos : Pos} {e : Expr} {es : List Expr} {t : TA}
/-- a call of such a def -/
theorem call_ok (F : FnG X.prog X.w X.K X.mg X.base CX k f fd ps sp) (hr : Room k X.A) (hgd : X.A.guards = some []) (hg : Gl X x) (hm : X.mg x = some (.ref f)) (hk : PySem.W.keepIn X.K (.ref f) = true) (hb : Binds X.K fd ps []) (hx : Passes CX X E)
    (ha : PA X (e :: es) t) (hdb : (x == ("__debug__" : Str)) = false := by decide) (h1 : starEach (e :: es) X.env = (false, eval e X.env) :: starEach es X.env := by rfl) (h2 : (backTo pos (starEach es X.env)).any (·.1) = false := by rfl) :
    PE X (.Call (.Name x p) (e :: es) [] pos) (tCall sp [] E t) := by
  constructor
  intro pins s σ H Q I h
  refine wpAny_Call_Name_kw (ld_glob I hg hm (PySem.W.callWith_K (h₀ := X.base) I.ok.mod.kin hk ?_ h1 h2) hdb)
  refine thn (ha.run pos pins s σ H _ I h) ?_
  rintro us s1 ⟨vs, H1, J, r, q⟩
  refine ⟨J.kIn, wpAny_call ?_⟩
  have q : sp (vs ++ []) H1 Q E := q
  rw [List.append_nil] at q
  have z : (us ++ []).length = ps.length := by rw [List.append_nil, ← r.length]; exact F.lenG _ _ _ _ q
  have bd := hb s1 us J.kIn z
  rw [List.append_nil] at bd
  apply codeAny_mono (F.runG X.A X.stack s1 H1 ⟨us, []⟩ us vs Q E hr hgd J.env0 bd r q)
  intro res s2 h3
  rcases res with u | fl
  · exact hx pins σ H1 s1 _ s2 J h3
  · cases fl with
    | ret u => exact J.after h3
    | _ => exact (show False from h3).elim
end
/-- repr of data without dicts, where no guard stands around -/
def rRepr (K : PySem.W.Frag) : List V → Hp → VK → Prop := fun vs H Q => ∃ (a : Addr) (d : PyData), vs = [.ref a] ∧ Dp K H (.ref a) d ∧ d.showable = true ∧ d.hasDict = false ∧ d.depth < 60 ∧ d.shown.length ≤ sizeLine ∧ Q (.str d.shown) H
theorem call_repr {X : Cx} (hgd : X.A.guards = some []) (hu : X.A.units + 64 < cLine) : CallR X (.builtin "repr") (rRepr X.K) := by
  intro pins s σ H vs us Q I r h
  obtain ⟨a, d, rfl, hd, h1, h2, h3, h4, q⟩ := h
  obtain ⟨u, rfl, ru⟩ := vals1 r
  cases (show u = Value.ref a from ru)
  obtain ⟨as, hR⟩ := Dp.reads I d (.ref a) (.ref a) hd rfl
  refine repr_of_reads' hR h1 (PyData.noDict_hsm h2) hgd (by omega) (fun _ _ z => z) (fun h' u tk hk => ?_) h4
  exact ⟨.str d.shown, H, I.kept (t' := tk) hk, ⟨u, rfl⟩, q⟩
end Gd

namespace Gd
open PySem PySem.Spec PyProof.Rows L2
/-- the law's own call, behind the top -/
theorem law_run {P : Program} {w : World} {K : PySem.W.Frag} {mg mb : Str → Option Value} {k : Nat} {fa a : Addr} {fd : FuncData} {x : Str} {sp : Sp} {t : Shared} {vs : List Value} {ns : List Int}
    (inK : K.In t.heap) (hmg : t.heap.Ns mainGlobals mg) (hmb : t.heap.Ns builtinsNs mb) (hbb : ∀ y : Str, y ≠ "__name__" → mb y = bootBuiltins y) (hnl : t.heap.NoLimit) (hgen : t.gens = #[])
    (hobj : t.heap.get? a = some { cls := .type "list", data := .seq vs.toArray }) (hints : IntsAre vs ns) (hlen : ns.length ≤ sizeLine) (room : Room k callerA)
    (F : ∀ base : Heap, K.In base → base.Ns mainGlobals mg → FnG P w K mg base CX0 k fa fd [x] sp) (hbind : ∀ (s : Shared) (u : Value), BindsTo s fd ⟨[u], []⟩ [(x, u)])
    (hsp : ∀ H : Hp, SqL K H a (ns.map V.int) → sp [.ref a] H (fun v _ => v = .bl true) fun _ _ _ => False) :
    codeAny (model P w) callerA (.call (.ref fa) ⟨[.ref a], []⟩) (fun r t' => r = .ok (.ret (.bool true)) ∧ OldK t.heap t'.heap ∧ t'.os = t.os ∧ AllBare t'.gens) t := by
  have hv := vals_ints hints
  let ob : Obj := { cls := .type "list", data := .seq vs.toArray }
  -- whatever is tracked is the script, as it lies
  suffices main : ∀ H : Hp, (∀ b u, H b = some u → b = a ∧ u = .frz ob (.lst (ns.map V.int)) ∧ K.lookup a = none) → SqL K H a (ns.map V.int) →
      codeAny (model P w) callerA (.call (.ref fa) ⟨[.ref a], []⟩) (fun r t' => r = .ok (.ret (.bool true)) ∧ OldK t.heap t'.heap ∧ t'.os = t.os ∧ AllBare t'.gens) t by
    cases hk : K.lookup a with
    | none =>
      apply main fun b => if b = a then some (.frz ob (.lst (ns.map V.int))) else none
      · intro b u z
        by_cases hb : b = a
        · rw [if_pos hb] at z
          exact ⟨hb, (Option.some.inj z).symm, hk⟩
        · rw [if_neg hb] at z
          cases z
      · exact Or.inl (Or.inr ⟨ob, if_pos rfl⟩)
    | some o =>
      have z := inK a o hk
      rw [hobj] at z
      cases z
      apply main fun _ => none
      · intro b u z
        cases z
      · exact Or.inr ⟨_, vs.toArray, _, hk, rfl, rfl, rfl, by rw [List.size_toArray, hints.length]; exact hlen, by simpa using hv⟩
  intro H hH hS
  have hok : HOk P w H t.heap := fun b u z => by
    obtain ⟨rfl, rfl, _⟩ := hH b u z
    exact ⟨hobj, by rw [List.length_map]; exact hlen, vs, _, hv, hobj⟩
  have free : ∀ {b o}, t.heap.get? b = some o → o ≠ ob → H b = none := fun {b o} z ne => by
    cases q : H b with
    | none => rfl
    | some u =>
      obtain ⟨rfl, _, _⟩ := hH b u q
      rw [hobj] at z
      exact absurd (Option.some.inj z).symm ne
  have nsH : ∀ {b m}, t.heap.Ns b m → (hidT t.heap H).Ns b m := fun {b m} ⟨o, es, ep, z, d, r⟩ => by
    refine ⟨o, es, ep, hidT_get z (free z fun q => ?_), d, r⟩
    rw [q] at d
    exact nomatch (show Data.seq vs.toArray _ = Data.dict es ep from d)
  have inKH : K.In (hidT t.heap H) := fun b o z => hidT_get (inK b o z) (by
    cases q : H b with
    | none => rfl
    | some u =>
      obtain ⟨rfl, _, n⟩ := hH b u q
      rw [n] at z
      cases z)
  obtain ⟨mc, l1, l2⟩ := hnl
  have e0 : Env0 P w K mg (hidT t.heap H) callerA [] t H := by
    refine ⟨rfl, ⟨inKH, nsH hmg, ⟨mb, nsH hmb, hbb⟩, mc, nsH l1, l2⟩, fun b o z => of_hidT z, Nat.le_of_eq (hidT_size _ _), trivial, fun b hb => ?_, hok, .of_eq hgen⟩
    cases hb
  apply codeAny_mono ((F _ inKH (nsH hmg)).runG callerA [] t H ⟨[.ref a], []⟩ [.ref a] [.ref a] _ _ room rfl e0 (hbind t (.ref a)) (.cons rfl .nil) (hsp H hS))
  intro r t' hr
  rcases r with e | fl
  · exact (show False from hr).elim
  cases fl with
  | ret u =>
    obtain ⟨v, H', os, bare, un, hok', ru, q⟩ := hr
    have q : v = .bl true := q
    subst q
    cases (show u = Value.bool true from ru)
    refine ⟨rfl, OldK.of_keep fun b o z => ?_, os, bare⟩
    cases q : H b with
    | none => exact un.keep b o z q (fun m => nomatch (show b ∈ ([] : List Addr) from m)) (by simp)
    | some u =>
      obtain ⟨rfl, rfl, _⟩ := hH b u q
      have z2 := (hok' b _ (un.frzs b _ _ q)).1
      rw [hobj] at z
      cases z
      exact z2
  | _ => exact (show False from hr).elim

/-- the goal that k_head leaves (case hc) -/
theorem walk {l : PySem.W.OpenLaw} {n k : Nat} {q : Program} {loose : List Str} {XP : (Str → Option Value) → Heap → Prop} {YP : World → Heap → Prop} {d : DefRec} {K : Params → PySem.W.Frag} {sp : World → Sp} {x : Str}
    (hn : l.most = some n) (hn2 : n ≤ sizeLine) (hdf : d.params.defaults = []) (room : Room k callerA) (hY : ∀ (w : World) (h : Heap), YP w h → (K w.params).In h)
    (F : ∀ (w : World) (mg : Str → Option Value) (fa : Addr) (h : Heap), (K w.params).In h → h.Ns mainGlobals mg → mg d.name = some (.ref fa) →
      ∃ fd : FuncData, (∀ (s : Shared) (u : Value), BindsTo s fd ⟨[u], []⟩ [(x, u)]) ∧ ∀ base : Heap, (K w.params).In base → base.Ns mainGlobals mg → FnG l.prog w (K w.params) mg base CX0 k fa fd [x] (sp w))
    (hsp : ∀ (w : World) (H : Hp) (a : Addr) (ns : List Int), ns.length ≤ n → SqL (K w.params) H a (ns.map V.int) → sp w [.ref a] H (fun v _ => v = .bl true) fun _ _ _ => False) :
    PySem.W.WalkO q loose XP YP l.row.toRowW d [] (fun f vs => PySem.call f vs) := by
  apply Att.attach_call hn hdf
  intro w s₀ s₁ mg mb fa o pm cd doc a vs ns G Y _ _ _ hfa hobj hints hlen hg
  have inK := hY w _ Y
  obtain ⟨fd, hb, hF⟩ := F w mg fa _ inK G.T.g hfa
  exact law_run inK G.T.g G.T.b G.T.builtins G.T.nolimit hg hobj hints (Nat.le_trans hlen hn2) room hF hb fun H hS => hsp w H a ns hlen hS
end Gd
set_option Elab.async false
set_option linter.all false
set_option maxRecDepth 100000
set_option maxHeartbeats 4000000
/-! Rl: three rules that the layer lacks: ** of great ints, t[::-1] of a tuple, set(..) of a list or tuple of ints. -/
namespace Gd
open PySem PySem.Spec PyProof.Rows L2
/-! ### powers -/
def CPowG (i j : Int) : Prop := 0 ≤ j ∧ (Builtin.Int.intBits i : Int) * j ≤ 2 ^ 27
theorem op_powG {X : Cx} : OpR X (binaryOp .Pow) (rI CPowG fun i j => .int (i ^ j.toNat)) := opI fun _ _ _ _ _ _ _ c q => pow_int c.1 c.2 q
/-! ### t[::-1] -/
theorem fm_same {α β : Type} {f g : α → Option β} : ∀ l : List α, (∀ x ∈ l, f x = g x) → l.filterMap f = l.filterMap g
  | [], _ => rfl
  | x :: l, h => by
    have h1 := h x List.mem_cons_self
    have h2 := fm_same l fun y hy => h y (List.mem_cons_of_mem _ hy)
    rw [List.filterMap_cons, List.filterMap_cons, h1, h2]
theorem back_all (its : Array Value) : (List.range its.size).filterMap (fun (k : Nat) => its[(((its.size : Int) - 1) + (k : Int) * (-1)).toNat]?) = its.toList.reverse := by
  have h1 : (List.range its.size).map (fun k => its.size - 1 - k) = (List.range its.size).reverse := PySem.W.krv_range its.size
  have h2 : its.toList.reverse = ((List.range its.size).map fun k => its.size - 1 - k).filterMap (its[·]?) := by
    rw [h1, List.filterMap_reverse, PySem.W.krv_all]
  rw [h2, List.filterMap_map]
  apply fm_same
  intro k hk
  have hk : k < its.size := List.mem_range.mp hk
  show its[_]? = its[_]?
  congr 1
  show ((its.size : Int) - 1 + (k : Int) * (-1)).toNat = its.size - 1 - k
  omega
section
variable {prog : Program} {w : World} {A : Around} {E : Value → Shared → Prop} {s : Shared}
theorem back_applied {sl : Addr} {vs : Value} {n : Nat} {Q : Int × Int × Nat → Shared → Prop} (hs : s.heap.IsSliceOf sl .none .none vs) (ps : IsPart vs (some (-1)))
    (h : Q ((n : Int) - 1, -1, n) s) : wpAny (model prog w) A (Builtin.Slice.sliceApplied (.ref sl) (pure (n : Int))) Q E s := by
  have ⟨ob, ho, _, hd⟩ := hs
  unfold Builtin.Slice.sliceApplied Builtin.Slice.sliceFields
  apply wpAny_bind
  refine wpAny_bind (wpAny_field ho hd (x := Value.none) rfl ?_)
  refine wpAny_bind (wpAny_field ho hd (x := Value.none) rfl ?_)
  refine wpAny_bind (wpAny_field ho hd (x := vs) rfl (wpAny_pure ?_))
  refine wpAny_bind (HT.slicePart_ ps ?_)
  show wpAny _ _ (if ((-1 : Int) == 0) = true then _ else _) _ _ s
  rw [if_neg (by decide)]
  refine wpAny_bind (slicePart_none (wpAny_bind (slicePart_none (wpAny_bind (wpAny_pure ?_)))))
  have e1 : Builtin.Slice.sliceAdjust none none (-1) (n : Int) = ((n : Int) - 1, -1) := by
    unfold Builtin.Slice.sliceAdjust
    simp
  have e2 : Builtin.Slice.slicePlaces ((n : Int) - 1) (-1) (-1) = n := by
    unfold Builtin.Slice.slicePlaces
    simp
    try omega
  show wpAny _ _ (match Builtin.Slice.sliceAdjust none none (-1) (n : Int) with | (lo, hi) => pure (lo, (-1 : Int), Builtin.Slice.slicePlaces lo hi (-1))) _ _ s
  rw [e1]
  show wpAny _ _ (pure ((n : Int) - 1, (-1 : Int), Builtin.Slice.slicePlaces ((n : Int) - 1) (-1) (-1))) _ _ s
  rw [e2]
  exact wpAny_pure h
theorem back_item {t sl : Addr} {its : Array Value} {vs : Value} {Q : Value → Shared → Prop} (ht : IsTup s.heap t its) (hs : s.heap.IsSliceOf sl .none .none vs) (ps : IsPart vs (some (-1))) (hz : its.size ≤ sizeLine)
    (h : Q (.ref s.heap.objs.size) { s with heap := s.heap.push { cls := .type "tuple", data := .seq its.toList.reverse.toArray } }) : wpAny (model prog w) A (getItem (.ref t) (.ref sl)) Q E s := by
  have ⟨ob, ho, hc, _⟩ := hs
  have few : sizeOk (.seq its.toList.reverse.toArray) := by
    show its.toList.reverse.toArray.size ≤ sizeLine
    simpa using hz
  unfold getItem
  try with_reducible refine wpAny_holding ?_
  first | refine wpAny_bind (wpAny_pure ?_) | skip
  refine wpAny_bind (wpAny_sequenceKey ht.typeIs (by decide) (wpAny_bind (wpAny_callSpecial?_slot (name := Str.ofString "__getitem__") ht.typeIs PyProof.Rows.slot_tuple_getitem
    (wpAny_call_entry PyProof.Rows.slot_tuple_getitem ht.typeIs entry_tuple_getitem ?_ (args_tuple_getitem _ _)))))
  show wpAny _ _ (Builtin.Tuple.tupleItemsOf (.ref t) >>= _) _ _ s
  refine wpAny_bind (tupleItemsOf_ ht (wpAny_bind (wpAny_typeOf (show s.TypeIs (.ref sl) "slice" from ⟨ob, ho, hc⟩) ?_)))
  rw [if_pos (by decide)]
  refine wpAny_bind (back_applied hs ps ?_)
  show wpAny _ _ (if ((its.size : Int) - 1 == 0 && (-1 : Int) == 1 && its.size == its.size) = true then _ else _) _ _ s
  rw [if_neg (by simp), back_all]
  first
    | exact wpAny_bind (m := Builtin.Tuple.tupleExact _) (wpAny_newObj_type (wpAny_pure ⟨_, rfl, wpAny_pure h⟩) few)
    | exact wpAny_bind (wpAny_bind (m := Builtin.Tuple.tupleExact _) (wpAny_newObj_type (wpAny_pure (wpAny_pure ⟨_, rfl, wpAny_pure h⟩)) few))
    | exact wpAny_bind (wpAny_bind (m := Builtin.Tuple.tupleExact _) (wpAny_newObj_type (wpAny_pure ⟨_, rfl, wpAny_pure h⟩) few))
    | exact wpAny_bind (m := Builtin.Tuple.tupleExact _) (wpAny_newObj_type (wpAny_bind (wpAny_pure (wpAny_pure ⟨_, rfl, wpAny_pure h⟩))) few)
end
def tBack (K : PySem.W.Frag) (te : TE) : TE := fun σ H Q => te σ H fun x G => ∃ a xs, x = .ref a ∧ SqT K G a xs ∧ ∀ p, G p = none → Q (.ref p) (upd G p (.tup xs.reverse))
theorem pe_back {X : Cx} {e : Expr} {te : TE} {k : Nat} {p1 p2 p3 pos : Pos} (he : PE X e te) : PE X (.Subscript e (.Slice none none (some (.UnaryOp .USub (.Constant (.int 1) k p1) p2)) p3) pos) (tBack X.K te) := by
  constructor
  intro pins s σ H Q I h
  refine Subscript_ (thn (he.run pins s σ H _ I h) ?_)
  rintro v s1 ⟨x, G, J, rx, a, xs, rfl, hx, q⟩
  cases (show v = Value.ref a from rx)
  have st : PO X (some (.UnaryOp .USub (.Constant (.int 1) k p1) p2)) (tPart (tUn (rU fun i => .int (-i)) (tC (.int 1)))) := po_some (pe_un un_neg pe_int)
  have no := po_none (X := X)
  apply wpAny_Slice
  refine thn (no.run pins s1 σ G (fun o F => o = none ∧ F = G) J ⟨rfl, rfl⟩) ?_
  rintro vl s2 ⟨_, _, J2, pl, rfl, rfl⟩
  refine thn (no.run pins s2 σ _ (fun o F => o = none ∧ F = _) J2 ⟨rfl, rfl⟩) ?_
  rintro vu s3 ⟨_, _, J3, pu, rfl, rfl⟩
  refine thn (st.run pins s3 σ _ (fun o F => o = some (-1) ∧ F = _) J3 ⟨1, rfl, -1, rfl, rfl, rfl⟩) ?_
  rintro vs s4 ⟨_, _, J4, ps, rfl, rfl⟩
  cases pl
  cases pu
  have J5 : Inv X pins σ _ { s4 with heap := s4.heap.push { cls := .type "slice", data := .fields #[Value.none, Value.none, vs] } } := J4.kept (t' := s4.toks) fun b ob z => Heap.get?_push_of_some _ z
  obtain ⟨its, r, ht, hz⟩ := J5.tuple hx
  have few : its.toArray.size ≤ sizeLine := by
    rw [List.size_toArray, ← r.length]
    exact hz
  refine tail_any (ops := [.ref a, .ref s4.heap.objs.size]) ht.typeIs PyProof.Rows.slot_tuple_getitem.lookup (back_item ht (Heap.IsSliceOf.new _ _ _ vs) ps few ?_) (by with_unfolding_all rfl)
  refine ⟨.ref _, _, J5.laid (t' := s4.toks) (o := .tup xs.reverse) (fun b ob z => Heap.get?_push_of_some _ z) (Nat.le_refl _) ?_, rfl, q _ (J5.hok.fresh (Nat.le_refl _))⟩
  refine ⟨by rw [List.length_reverse]; exact hz, _, r.reverse, ?_⟩
  exact IsTup.new _ _
end Gd
set_option Elab.async false
set_option linter.all false
set_option maxRecDepth 100000
set_option maxHeartbeats 4000000
namespace Gd
open PySem PySem.Spec PyProof.Rows L2
section
variable {P : Program} {w : World} {A : Around} {E : Value → Shared → Prop} {s : Shared}
abbrev freshSet (w : World) : Obj := { cls := .type "set", dict := none, data := .set #[] 0 (.fresh 0 0 (!w.params.followText "set-order")) }
/-- the set of a list of ints: what stands behind set(l) -/
def SetMade (w : World) (s : Shared) (ns : List Int) (r : Value) (s2 : Shared) : Prop :=
  r = .none ∧ ∃ h' tk c, s2 = { s with heap := h', toks := tk } ∧ SetR w h' s.heap.objs.size (fun j => decide (j ∈ ns)) c ∧ c ≤ ns.length ∧ ∀ b o, s.heap.get? b = some o → h'.get? b = some o
theorem set_of_list {l : Addr} {its : Array Value} (ns : List Int) {Q : Value → Shared → Prop} (calm : A.handled = none) (hl : s.heap.IsList l its) (hi : IntsAre its.toList ns) (few : ns.length + 1 < scanBound)
    (h : ∀ (h' : Heap) (tk c : Nat), SetR w h' s.heap.objs.size (fun j => decide (j ∈ ns)) c → c ≤ ns.length → (∀ b o, s.heap.get? b = some o → h'.get? b = some o) → Q (.ref s.heap.objs.size) { s with heap := h', toks := tk }) :
    wpAny (model P w) A (call (.type "set") [.ref l]) Q E s := by
  have many : its.size = ns.length := by
    rw [← hi.length, Array.length_toList]
  have ⟨c, tl, hmro⟩ := F.called_set.mro
  have f1 := F.called_set.made
  have f2 := F.called_set.sub
  apply wpAny_call
  apply codeAny_of_tree
  show wpAny _ _ (callAny (.type "set") _) _ _ _
  refine wpAny_pure ⟨Code.quiet_builtin _ (by decide +kernel), codeAny_builtin F.entry_type_call ?_⟩
  rw [Around.under_plain (weight_type_call_type "set" [.ref l] []) rfl]
  have f3 := F.called_set.notType
  have f4 := F.called_set.canCreate
  have f5 := F.typeCall_set_1 (.ref l)
  repeat (any_goals (first | assumption | wp_step))
  refine codeAny_mono (code_set_led1 (.ref l) (E := E) (Q₁ := fun r t => r = .ref s.heap.objs.size ∧ t = { s with heap := s.heap.push (freshSet w) }) ⟨rfl, rfl⟩) ?_
  intro r s1 hr
  rcases r with e | fl
  · exact hr
  cases fl with
  | next => exact hr.elim
  | brk => exact hr.elim
  | cont => exact hr.elim
  | ret obj =>
    obtain ⟨rfl, rfl⟩ := hr
    have new : (s.heap.push (freshSet w)).get? s.heap.objs.size = some (freshSet w) := Heap.get?_push_size _ rfl
    have isS : Shared.TypeIs { s with heap := s.heap.push (freshSet w) } (.ref s.heap.objs.size) "set" := ⟨_, new, rfl⟩
    have f6 := F.called_set.init.lookup
    have f7 := F.called_set.init.bind (.ref s.heap.objs.size)
    repeat (any_goals (first | assumption | wp_step))
    refine codeAny_mono (codeAny_call_builtin (R := wants (SetMade w s ns) E) F.called_set.init.plain F.entry_set_init (check_set_init_1 isS ?_)) ?_
    · have lLt : l < s.heap.objs.size := hl.elim fun o ho => Heap.lt_size ho.1
      have hl1 : (s.heap.push (freshSet w)).IsList l its := hl.push _
      obtain ⟨⟨oc, od, dat, osl⟩, ho, hc, nl, hd⟩ := id hl1
      simp only at hc hd
      subst hc hd
      have g1 := F.sub_list_set
      have g2 := F.sub_list_frozenset
      have g3 : (Value.type "list" == Value.type "dict") = false := by decide
      unfold Builtin.«set.__init__» noKeywords Builtin.Frozenset.updateFrom
      generalize hIt : pyIter = It
      wp_walk
      subst hIt
      refine wpAny_pyIter_list hl1 (wpAny_bind (wpAny_runValue ?_))
      have sz1 : (s.heap.push (freshSet w)).objs.size = s.heap.objs.size + 1 := Heap.size_push ..
      have calm3 : A.in1.in1.in1.handled = none := by simp [calm]
      have apart : l ≠ (s.heap.push (freshSet w)).objs.size := by
        rw [sz1]
        exact Nat.ne_of_lt (Nat.lt_succ_of_lt lLt)
      have outside : s.heap.objs.size ∉ [(s.heap.push (freshSet w)).objs.size, l] := by
        rw [sz1]
        simp only [List.mem_cons, List.not_mem_nil, or_false, not_or]
        exact ⟨Nat.ne_of_lt (Nat.lt_succ_self _), Nat.ne_of_gt lLt⟩
      have vals : ∀ (i : Nat) (v : Value), its[i]? = some v → ∃ k t, ns[i]? = some k ∧ v = .int k t := by
        intro i v hv
        have lt : i < ns.length := by
          rw [← many]
          exact (Array.getElem?_eq_some_iff.mp hv).1
        obtain ⟨t, e⟩ := PyProof.Rows.IntsAre.int_at hi i v (by rw [Array.getElem?_toList]; exact hv)
        exact ⟨ns[i], t, List.getElem?_eq_getElem lt, by rw [e, List.getD_eq_getElem?_getD, List.getElem?_eq_getElem lt] <;> rfl⟩
      refine set_update_ints (Walks.list calm3 _ l apart its).toS s.heap.objs.size outside ns many few vals (its.size - 0) 0 _ (by omega) (Nat.zero_le _) ⟨⟨_, Heap.get?_push_size _ rfl, rfl, rfl⟩, hl1.push _⟩ ?_ ?_
      · exact ⟨0, Nat.le_refl 0, setR_new_at (Heap.get?_push_of_some _ new)⟩
      · intro s' c' mv hc' hS'
        obtain ⟨h', gs, dr, tk, os⟩ := s'
        obtain rfl : gs = s.gens := mv.gens
        obtain rfl : dr = s.drawn := mv.drawn
        obtain rfl : os = s.os := mv.os
        refine wpAny_pure (wpAny_pure ?_)
        refine ⟨rfl, h', tk, c', rfl, hS', by omega, fun b o z => ?_⟩
        have lt := Heap.lt_size z
        refine mv.heap b o ?_ (Heap.get?_push_of_some _ (Heap.get?_push_of_some _ z))
        rw [sz1]
        simp only [List.mem_cons, List.not_mem_nil, or_false, not_or]
        exact ⟨Nat.ne_of_lt lt, Nat.ne_of_lt (Nat.lt_succ_of_lt lt)⟩
    · intro r2 s2 hr2
      rcases r2 with e | fl
      · exact hr2
      cases fl with
      | next => exact hr2.elim
      | brk => exact hr2.elim
      | cont => exact hr2.elim
      | ret r =>
        obtain ⟨rfl, h', tk, c', rfl, hS', hc', hk⟩ := hr2
        repeat (any_goals (first | assumption | wp_step))
        exact h _ _ _ hS' hc' hk
end
/-- set(xs), xs a list or a tuple of ints -/
def rSetI (K : PySem.W.Frag) (w : World) : List V → Hp → VK → Prop := fun vs H Q => ∃ (a : Addr) (ns : List Int), vs = [.ref a] ∧ (SqL K H a (ns.map V.int) ∨ SqT K H a (ns.map V.int)) ∧ ns.length ≤ 1000 ∧
  ∀ (p : Addr) (n : Nat), n ≤ ns.length → H p = none → Q (.ref p) (upd H p (SetO w p (fun j => decide (j ∈ ns)) n))
theorem call_setI {X : Cx} (hc : X.calm = true) : CallR X (.type "set") (rSetI X.K X.w) := by
  intro pins s σ H vs us Q I r h
  obtain ⟨a, ns, rfl, hx, few, q⟩ := h
  obtain ⟨u, rfl, ru⟩ := vals1 r
  cases (show u = Value.ref a from ru)
  have calm := I.ok.hd hc
  have fin : ∀ (h' : Heap) (tk c : Nat), SetR X.w h' s.heap.objs.size (fun j => decide (j ∈ ns)) c → c ≤ ns.length → (∀ b o, s.heap.get? b = some o → h'.get? b = some o) → EP X pins σ Q (.ref s.heap.objs.size) { s with heap := h', toks := tk } := by
    intro h' tk c R hc' hk
    exact ⟨.ref _, _, I.laid (t' := tk) hk (Nat.le_refl _) (setO_new R), rfl, q _ c hc' (I.hok.fresh (Nat.le_refl _))⟩
  rcases hx with hx | hx
  · obtain ⟨its, rv, pt, _⟩ := I.list hx
    exact set_of_list ns calm pt.isList (ints_of_vals rv) (by unfold scanBound; omega) fin
  · obtain ⟨its, rv, pt, _⟩ := I.tuple hx
    exact call_set_tupI ns calm (show s.heap.IsTuple a its.toArray from pt) (ints_of_vals rv) (by unfold scanBound; omega) fin
end Gd
set_option Elab.async false
set_option linter.all false
set_option maxRecDepth 100000
set_option maxHeartbeats 4000000
/-! Lc: readings of comprehensions: what stays, what is gathered; lists compared with the empty one. -/
namespace Gd
open PySem PySem.Spec PyProof.Rows L2
theorem _root_.L2.Same.upG {H G : Hp} {p : Addr} {o : HO} (s : Same H G) (n : H p = none) : Same H (upd G p o) := fun b x e => by
  rw [upd_ne (ne_of_none e n)]
  exact s b x e
theorem _root_.L2.Same.newG {H : Hp} {p : Addr} {o : HO} (n : H p = none) : Same H (upd H p o) := (Same.refl H).upG n
theorem _root_.L2.Same.tupS {K : PySem.W.Frag} {H G : Hp} {a : Addr} {xs : List V} (s : Same H G) (h : SqT K H a xs) : SqT K G a xs := by
  rcases h with (h | ⟨o, h⟩) | h
  · exact .inl (.inl (s _ _ h))
  · exact .inl (.inr ⟨o, s _ _ h⟩)
  · exact .inr h
/-- between two turns: Ok of the heap, the list at D, what it has gathered -/
def Nx (Ok : Hp → Prop) (D : Addr) (Acc : Nat → List V → Prop) (i : Nat) : Hp → Prop := fun H => ∃ acc, Ok H ∧ H D = some (.lst acc) ∧ Acc i acc
theorem nx_put {Ok : Hp → Prop} {D : Addr} {Acc : Nat → List V → Prop} {i : Nat} {H : Hp} {acc : List V} {y : V} (hup : ∀ H o, Ok H → Ok (upd H D o)) (ok : Ok H) (e : H D = some (.lst acc)) (few : acc.length ≤ 1000) (a : Acc (i + 1) (acc ++ [y])) :
    ∃ acc, H D = some (.lst acc) ∧ acc.length < sizeLine ∧ Nx Ok D Acc (i + 1) (upd H D (.lst (acc ++ [y]))) :=
  ⟨acc, e, small1000 few, acc ++ [y], hup H _ ok, upd_same, a⟩
theorem lc_any {J : It} {n : Nat} {g : TG} {tt : TT} {te : TE} {vs : List Nat} {σ : L2.St} {H1 : Hp} {D : Addr} {Qd : Hp → Prop} (Ok : Hp → Prop) (Acc : Nat → List V → Prop) (Item : Nat → V → Hp → Prop) (h0 : Ok (upd H1 D (.lst []))) (z0 : Acc 0 [])
    (hgo : ∀ i H, i < n → Nx Ok D Acc i H → J.go i H) (hst : ∀ H, Nx Ok D Acc n H → J.stop n H) (hy : ∀ i H v H', i < n → Nx Ok D Acc i H → J.yld i H v H' → Nx Ok D Acc i H' ∧ Item i v H')
    (hs : ∀ i v H, i < n → Nx Ok D Acc i H → Item i v H → g v (wipe σ vs) H fun σ2 H2 => wipe σ2 vs = wipe σ vs ∧ tt σ2 H2 fun b H3 =>
      if b = true then te σ2 H3 fun y H4 => ∃ acc, H4 D = some (.lst acc) ∧ acc.length < sizeLine ∧ Nx Ok D Acc (i + 1) (upd H4 D (.lst (acc ++ [y]))) else Nx Ok D Acc (i + 1) H3)
    (hd : ∀ H acc, Ok H → H D = some (.lst acc) → Acc n acc → Qd H) :
    ∃ W : Nat → Nat → Hp → Prop, (∃ m, W 0 m (upd H1 D (.lst []))) ∧ ∀ i m H, W i m H →
      (J.stop i H ∧ Qd H) ∨ (J.go i H ∧ ∃ N : Hp → Prop, (∀ H', N H' → ∃ m', m' < m ∧ W (i + 1) m' H') ∧ ∀ x H', J.yld i H x H' → g x (wipe σ vs) H' fun σ2 H2 => wipe σ2 vs = wipe σ vs ∧ tt σ2 H2 fun b H3 =>
        if b = true then te σ2 H3 fun y H4 => ∃ acc, H4 D = some (.lst acc) ∧ acc.length < sizeLine ∧ N (upd H4 D (.lst (acc ++ [y]))) else N H3) := by
  refine ⟨fun i m H => i + m = n ∧ Nx Ok D Acc i H, ⟨n, by omega, [], h0, upd_same, z0⟩, ?_⟩
  rintro i m H ⟨e, nx⟩
  by_cases hi : i < n
  · refine .inr ⟨hgo i H hi nx, Nx Ok D Acc (i + 1), fun H' z => ⟨m - 1, by omega, by omega, z⟩, fun v H' y => ?_⟩
    obtain ⟨z1, z2⟩ := hy i H v H' hi nx y
    exact hs i v H' hi z1 z2
  · obtain rfl : i = n := by omega
    obtain ⟨acc, a, b, c⟩ := nx
    exact .inl ⟨hst H ⟨acc, a, b, c⟩, hd H acc a b c⟩
section
variable {K : PySem.W.Frag} {a : Addr} {xs : List V} {g : TG} {tt : TT} {te : TE} {vs : List Nat} {σ : L2.St} {H1 : Hp} {D : Addr} {Qd : Hp → Prop}
/-- over a tuple that stays -/
theorem lc_tupG (Ok : Hp → Prop) (Acc : Nat → List V → Prop) (hS : ∀ H, Ok H → SqT K H a xs) (h0 : Ok (upd H1 D (.lst []))) (z0 : Acc 0 [])
    (hs : ∀ i v H, i < xs.length → Nx Ok D Acc i H → xs[i]? = some v → g v (wipe σ vs) H fun σ2 H2 => wipe σ2 vs = wipe σ vs ∧ tt σ2 H2 fun b H3 =>
      if b = true then te σ2 H3 fun y H4 => ∃ acc, H4 D = some (.lst acc) ∧ acc.length < sizeLine ∧ Nx Ok D Acc (i + 1) (upd H4 D (.lst (acc ++ [y]))) else Nx Ok D Acc (i + 1) H3)
    (hd : ∀ H acc, Ok H → H D = some (.lst acc) → Acc xs.length acc → Qd H) :
    ∃ W : Nat → Nat → Hp → Prop, (∃ m, W 0 m (upd H1 D (.lst []))) ∧ ∀ i m H, W i m H →
      ((Itt K a).stop i H ∧ Qd H) ∨ ((Itt K a).go i H ∧ ∃ N : Hp → Prop, (∀ H', N H' → ∃ m', m' < m ∧ W (i + 1) m' H') ∧ ∀ x H', (Itt K a).yld i H x H' → g x (wipe σ vs) H' fun σ2 H2 => wipe σ2 vs = wipe σ vs ∧ tt σ2 H2 fun b H3 =>
        if b = true then te σ2 H3 fun y H4 => ∃ acc, H4 D = some (.lst acc) ∧ acc.length < sizeLine ∧ N (upd H4 D (.lst (acc ++ [y]))) else N H3) :=
  lc_any (J := Itt K a) (n := xs.length) Ok Acc (fun i v _ => xs[i]? = some v) h0 z0 (fun i H hi ⟨acc, o, _⟩ => ⟨xs, xs[i], hS H o, List.getElem?_eq_getElem hi⟩)
    (fun H ⟨acc, o, _⟩ => ⟨xs, hS H o, Nat.le_refl _⟩) (fun i H v H' hi nx ⟨e, f⟩ => by
      subst e
      obtain ⟨acc, o, r⟩ := nx
      exact ⟨⟨acc, o, r⟩, f xs (hS _ o)⟩) hs hd
/-- over the signs of a text -/
theorem lc_strG {x : Str} (Ok : Hp → Prop) (Acc : Nat → List V → Prop) (h0 : Ok (upd H1 D (.lst []))) (z0 : Acc 0 [])
    (hs : ∀ i c H, x.cps[i]? = some c → Nx Ok D Acc i H → g (.str ⟨#[c]⟩) (wipe σ vs) H fun σ2 H2 => wipe σ2 vs = wipe σ vs ∧ tt σ2 H2 fun b H3 =>
      if b = true then te σ2 H3 fun y H4 => ∃ acc, H4 D = some (.lst acc) ∧ acc.length < sizeLine ∧ Nx Ok D Acc (i + 1) (upd H4 D (.lst (acc ++ [y]))) else Nx Ok D Acc (i + 1) H3)
    (hd : ∀ H acc, Ok H → H D = some (.lst acc) → Acc x.cps.size acc → Qd H) :
    ∃ W : Nat → Nat → Hp → Prop, (∃ m, W 0 m (upd H1 D (.lst []))) ∧ ∀ i m H, W i m H →
      ((Its x).stop i H ∧ Qd H) ∨ ((Its x).go i H ∧ ∃ N : Hp → Prop, (∀ H', N H' → ∃ m', m' < m ∧ W (i + 1) m' H') ∧ ∀ v H', (Its x).yld i H v H' → g v (wipe σ vs) H' fun σ2 H2 => wipe σ2 vs = wipe σ vs ∧ tt σ2 H2 fun b H3 =>
        if b = true then te σ2 H3 fun y H4 => ∃ acc, H4 D = some (.lst acc) ∧ acc.length < sizeLine ∧ N (upd H4 D (.lst (acc ++ [y]))) else N H3) :=
  lc_any (J := Its x) (n := x.cps.size) Ok Acc (fun i v _ => ∃ c, x.cps[i]? = some c ∧ v = .str ⟨#[c]⟩) h0 z0 (fun i H hi _ => hi) (fun H _ => Nat.le_refl _)
    (fun i H v H' hi nx ⟨e, f⟩ => by
      subst e
      exact ⟨nx, f⟩)
    (fun i v H hi nx ⟨c, hc, e⟩ => by
      subst e
      exact hs i c H hc nx) hd
/-- over pairs of two tuples that stay -/
theorem lc_zipG {b : Addr} {ys : List V} {n : Nat} (hx : n ≤ xs.length) (hy : n ≤ ys.length) (hn : xs.length ≤ n ∨ ys.length ≤ n) (Ok : Hp → Prop) (Acc : Nat → List V → Prop) (hS : ∀ H, Ok H → SqT K H a xs ∧ SqT K H b ys)
    (hup : ∀ H T o, T ≠ D → H T = none → Ok H → Ok (upd H T o)) (h0 : Ok (upd H1 D (.lst []))) (z0 : Acc 0 [])
    (hs : ∀ i x y T H, xs[i]? = some x → ys[i]? = some y → Nx Ok D Acc i H → H T = some (.tup [x, y]) → g (.ref T) (wipe σ vs) H fun σ2 H2 => wipe σ2 vs = wipe σ vs ∧ tt σ2 H2 fun b H3 =>
      if b = true then te σ2 H3 fun y H4 => ∃ acc, H4 D = some (.lst acc) ∧ acc.length < sizeLine ∧ Nx Ok D Acc (i + 1) (upd H4 D (.lst (acc ++ [y]))) else Nx Ok D Acc (i + 1) H3)
    (hd : ∀ H acc, Ok H → H D = some (.lst acc) → Acc n acc → Qd H) :
    ∃ W : Nat → Nat → Hp → Prop, (∃ m, W 0 m (upd H1 D (.lst []))) ∧ ∀ i m H, W i m H →
      ((RZ.ItzT K a b).stop i H ∧ Qd H) ∨ ((RZ.ItzT K a b).go i H ∧ ∃ N : Hp → Prop, (∀ H', N H' → ∃ m', m' < m ∧ W (i + 1) m' H') ∧ ∀ v H', (RZ.ItzT K a b).yld i H v H' → g v (wipe σ vs) H' fun σ2 H2 => wipe σ2 vs = wipe σ vs ∧ tt σ2 H2 fun b H3 =>
        if b = true then te σ2 H3 fun y H4 => ∃ acc, H4 D = some (.lst acc) ∧ acc.length < sizeLine ∧ N (upd H4 D (.lst (acc ++ [y]))) else N H3) :=
  lc_any (J := RZ.ItzT K a b) (n := n) Ok Acc (fun i v H => ∃ x y T, xs[i]? = some x ∧ ys[i]? = some y ∧ v = .ref T ∧ H T = some (.tup [x, y])) h0 z0
    (fun i H hi ⟨acc, o, _⟩ => ⟨xs, ys, _, _, (hS H o).1, (hS H o).2, List.getElem?_eq_getElem (by omega), List.getElem?_eq_getElem (by omega)⟩)
    (fun H ⟨acc, o, _⟩ => ⟨xs, ys, (hS H o).1, (hS H o).2, hn⟩)
    (fun i H v H' hi nx ⟨T, x, y, e1, nT, e2, f1, f2⟩ => by
      subst e1 e2
      obtain ⟨acc, o, e, r⟩ := nx
      have ne : D ≠ T := ne_of_none e nT
      exact ⟨⟨acc, hup H T _ ne.symm nT o, by rw [upd_ne ne]; exact e, r⟩, x, y, T, f1 xs (hS H o).1, f2 ys (hS H o).2, rfl, upd_same⟩)
    (fun i v H hi nx ⟨x, y, T, hx, hy, e, hT⟩ => by
      subst e
      exact hs i x y T H hx hy nx hT) hd
end
theorem tyes {X Y : Hp → Prop} {σ : L2.St} {H : Hp} (h : X H) : tYes σ H (fun b G => if b = true then X G else Y G) := by
  show (if true = true then X H else Y H)
  rw [if_pos rfl]
  exact h
/-! ### t[i:j], t + u: some tuple -/
def rSlU (K : PySem.W.Frag) : V → Option Int → Option Int → Hp → VK → Prop := fun x lo hi H Q => ∃ a xs, x = .ref a ∧ SqT K H a xs ∧ ∀ b G, Same H G → SqT K G b (cutV xs lo hi) → Q (.ref b) G
theorem sl_tupU {X : Cx} : SlR X (rSlU X.K) := by
  intro pins s σ H x v vl vu lo hi sl Q I rx hs pl pu h
  obtain ⟨a, xs, rfl, hx, q⟩ := h
  refine sl_tupA pins s σ H _ v vl vu lo hi sl Q I rx hs pl pu ⟨a, xs, rfl, hx, fun e => q a H (Same.refl H) ?_, fun _ p np => q p _ (Same.newG np) (.inl (.inl upd_same))⟩
  have z : cutV xs lo hi = xs := by
    unfold cutV
    rw [e.1, e.2, List.drop_zero, Nat.sub_zero, List.take_length]
  rw [z]
  exact hx
def rCatU (K : PySem.W.Frag) : R2 := fun x y H Q => ∃ a b xs ys, x = .ref a ∧ y = .ref b ∧ SqT K H a xs ∧ SqT K H b ys ∧ xs.length + ys.length ≤ sizeLine ∧ ∀ c G, Same H G → SqT K G c (xs ++ ys) → Q (.ref c) G
theorem op_catU {X : Cx} : OpR X (binaryOp .Add) (rCatU X.K) := by
  intro pins s σ H x y v u Q I rx ry h
  obtain ⟨a, b, xs, ys, rfl, rfl, hx, hy, few, q⟩ := h
  refine op_catA pins s σ H _ _ v u Q I rx ry ⟨a, b, xs, ys, rfl, rfl, hx, hy, few, fun e => q b H (Same.refl H) ?_, fun _ e => q a H (Same.refl H) ?_, fun _ _ p np => q p _ (Same.newG np) (.inl (.inl upd_same))⟩
  · rw [e]
    exact hy
  · rw [e, List.append_nil]
    exact hx
def rSlV : V → Option Int → Option Int → Hp → VK → Prop := fun x lo hi H Q => ∃ a xs, x = .ref a ∧ H a = some (.tup xs) ∧ ∀ b G, Same H G → G b = some (.tup (cutV xs lo hi)) → Q (.ref b) G
theorem sl_tupV {X : Cx} : SlR X rSlV := by
  intro pins s σ H x v vl vu lo hi sl Q I rx hs pl pu h
  obtain ⟨a, xs, rfl, hx, q⟩ := h
  refine sl_tupA pins s σ H _ v vl vu lo hi sl Q I rx hs pl pu ⟨a, xs, rfl, .inl (.inl hx), fun e => q a H (Same.refl H) ?_, fun _ p np => q p _ (Same.newG np) upd_same⟩
  have z : cutV xs lo hi = xs := by
    unfold cutV
    rw [e.1, e.2, List.drop_zero, Nat.sub_zero, List.take_length]
  rw [z]
  exact hx
def rCatV : R2 := fun x y H Q => ∃ a b xs ys, x = .ref a ∧ y = .ref b ∧ H a = some (.tup xs) ∧ H b = some (.tup ys) ∧ xs.length + ys.length ≤ sizeLine ∧ ∀ c G, Same H G → G c = some (.tup (xs ++ ys)) → Q (.ref c) G
theorem op_catV {X : Cx} : OpR X (binaryOp .Add) rCatV := by
  intro pins s σ H x y v u Q I rx ry h
  obtain ⟨a, b, xs, ys, rfl, rfl, hx, hy, few, q⟩ := h
  refine op_catA pins s σ H _ _ v u Q I rx ry ⟨a, b, xs, ys, rfl, rfl, .inl (.inl hx), .inl (.inl hy), few, fun e => q b H (Same.refl H) ?_, fun _ e => q a H (Same.refl H) ?_, fun _ _ p np => q p _ (Same.newG np) upd_same⟩
  · rw [e]
    exact hy
  · rw [e, List.append_nil]
    exact hx
/-! ### a list == [], != [] -/
def rNil (f : Bool → Bool) (K : PySem.W.Frag) : R2 := fun x y H Q => ∃ a b xs, x = .ref a ∧ y = .ref b ∧ SqL K H a xs ∧ SqL K H b [] ∧ Q (.bl (f xs.isEmpty)) H
theorem op_eqNil {X : Cx} (hu : X.A.units < cLine) : OpR X (compareOp .Eq) (rNil id X.K) := by
  intro pins s σ H x y v u Q I rx ry h
  obtain ⟨a, b, xs, rfl, rfl, h1, h2, q⟩ := h
  cases (show v = Value.ref a from rx)
  cases (show u = Value.ref b from ry)
  obtain ⟨its, r1, p1, _⟩ := I.list h1
  obtain ⟨its2, r2, p2, _⟩ := I.list h2
  cases r2
  cases r1 with
  | nil =>
    exact SeqAt.eq_listAt (e := fun _ => true) p1.isList p2.isList rfl hu (fun j z _ => absurd z (by simp)) ⟨.bl true, H, I, rfl, q⟩
  | cons _ _ => exact SeqAt.eq_list_lengthsAt p1.isList p2.isList (by simp) hu ⟨.bl false, H, I, rfl, q⟩
theorem op_neNil {X : Cx} (hu : X.A.units < cLine) : OpR X (compareOp .NotEq) (rNil (!·) X.K) := by
  intro pins s σ H x y v u Q I rx ry h
  obtain ⟨a, b, xs, rfl, rfl, h1, h2, q⟩ := h
  cases (show v = Value.ref a from rx)
  cases (show u = Value.ref b from ry)
  obtain ⟨its, r1, p1, _⟩ := I.list h1
  obtain ⟨its2, r2, p2, _⟩ := I.list h2
  cases r2
  cases r1 with
  | nil => exact SeqAt.RcNeAt.lists (e := fun _ => true) p1.isList p2.isList rfl hu (fun j z _ => absurd z (by simp)) _ _ _ _ ⟨.bl false, H, I, rfl, q⟩
  | cons _ _ => exact SeqAt.RcNeAt.lists_lengths p1.isList p2.isList (by simp) hu _ _ _ _ ⟨.bl true, H, I, rfl, q⟩
end Gd
set_option Elab.async false
set_option linter.all false
set_option maxRecDepth 100000
set_option maxHeartbeats 4000000
/-! Tj: list(s) of a text; comprehensions over a range by one invariant. -/
namespace Gd
open PySem PySem.Spec PyProof.Rows L2
/-- the sgnV of a text, as texts -/
def sgnV (x : Str) : List V := x.cps.toList.map fun c => V.str ⟨#[c]⟩
theorem sgnV_len (x : Str) : (sgnV x).length = x.cps.size := by
  unfold sgnV
  rw [List.length_map, Array.length_toList]
theorem call_listStr {X : Cx} (hc : X.calm = true) : CallR X (.type "list") (fun xs H Q => ∃ x, xs = [.str x] ∧ x.cps.size ≤ 1000 ∧ ∀ p, H p = none → Q (.ref p) (upd H p (.lst (sgnV x)))) := by
  intro pins s σ H xs us Q I r h
  obtain ⟨x, rfl, few, q⟩ := h
  obtain ⟨u, rfl, t, rfl⟩ := vals1 r
  refine call_list_str (I.ok.hd hc) x t (fun h' tk acc c' hk e' hi => ?_) (Nat.le_of_lt (small1000 few))
  refine ⟨.ref s.heap.objs.size, upd H s.heap.objs.size (.lst (sgnV x)), I.laid (t' := tk) hk (Nat.le_refl _) (show ObjOk X.prog X.w _ _ _ (.lst (sgnV x)) from ⟨?_, acc.toList, c', ?_, ?_⟩), rfl, q _ (I.hok.fresh (Nat.le_refl _))⟩
  · rw [sgnV_len]
    exact Nat.le_of_lt (small1000 few)
  · refine vals_of_at (by rw [sgnV_len, Array.length_toList, hi.1]) fun j y w h1 h2 => ?_
    obtain ⟨c, tk', e1, rfl⟩ := hi.2 j w (by rw [← Array.getElem?_toList]; exact h2)
    unfold sgnV at h1
    rw [List.getElem?_map, Array.getElem?_toList, e1] at h1
    cases h1
    exact ⟨tk', rfl⟩
  · rw [Array.toArray_toList]
    exact e'
/-- list(..) of a list, a tuple or a text -/
structure rListA (K : PySem.W.Frag) (xs : List V) (H : Hp) (Q : VK) : Prop where
  h : (∃ p ys, xs = [.ref p] ∧ (SqL K H p ys ∨ SqT K H p ys) ∧ ∀ l, H l = none → Q (.ref l) (upd H l (.lst ys))) ∨ ∃ x, xs = [.str x] ∧ x.cps.size ≤ 1000 ∧ ∀ p, H p = none → Q (.ref p) (upd H p (.lst (sgnV x)))
theorem call_listA {X : Cx} (hc : X.calm = true) : CallR X (.type "list") (rListA X.K) := fun pins s σ H xs us Q I r h => CallR.or call_list_of (call_listStr hc) pins s σ H xs us Q I r h.h
/-- over a range, whatever stays -/
theorem lc_rngG {lo : Int} {n : Nat} {g : TG} {tt : TT} {te : TE} {vs : List Nat} {σ : L2.St} {H1 : Hp} {D : Addr} {Qd : Hp → Prop} (Ok : Hp → Prop) (Acc : Nat → List V → Prop) (h0 : Ok (upd H1 D (.lst []))) (z0 : Acc 0 [])
    (hs : ∀ i H, i < n → Nx Ok D Acc i H → g (.int (lo + i)) (wipe σ vs) H fun σ2 H2 => wipe σ2 vs = wipe σ vs ∧ tt σ2 H2 fun b H3 =>
      if b = true then te σ2 H3 fun y H4 => ∃ acc, H4 D = some (.lst acc) ∧ acc.length < sizeLine ∧ Nx Ok D Acc (i + 1) (upd H4 D (.lst (acc ++ [y]))) else Nx Ok D Acc (i + 1) H3)
    (hd : ∀ H acc, Ok H → H D = some (.lst acc) → Acc n acc → Qd H) :
    ∃ W : Nat → Nat → Hp → Prop, (∃ m, W 0 m (upd H1 D (.lst []))) ∧ ∀ i m H, W i m H →
      ((Itr lo n).stop i H ∧ Qd H) ∨ ((Itr lo n).go i H ∧ ∃ N : Hp → Prop, (∀ H', N H' → ∃ m', m' < m ∧ W (i + 1) m' H') ∧ ∀ v H', (Itr lo n).yld i H v H' → g v (wipe σ vs) H' fun σ2 H2 => wipe σ2 vs = wipe σ vs ∧ tt σ2 H2 fun b H3 =>
        if b = true then te σ2 H3 fun y H4 => ∃ acc, H4 D = some (.lst acc) ∧ acc.length < sizeLine ∧ N (upd H4 D (.lst (acc ++ [y]))) else N H3) :=
  lc_any (J := Itr lo n) (n := n) Ok Acc (fun i v _ => v = .int (lo + i)) h0 z0 (fun i H hi _ => hi) (fun H _ => Nat.le_refl _)
    (fun i H v H' hi nx ⟨e, f⟩ => by
      subst e
      exact ⟨nx, f⟩)
    (fun i v H hi nx e => by
      subst e
      exact hs i H hi nx) hd
end Gd
set_option Elab.async false
set_option linter.all false
set_option maxRecDepth 100000
set_option maxHeartbeats 4000000
namespace Gd
open PySem PySem.Spec PyProof.Rows L2
/-- the heap once a tuple's items are gathered into a new list -/
abbrev gath (h : Heap) (its : Array Value) : Heap := (h.push { cls := .type "list", data := .seq ([] : List Value).toArray }).update h.objs.size (Obj.mapSeq (· ++ its))
theorem gath_old {h : Heap} {its : Array Value} {b : Addr} {o : Obj} (e : h.get? b = some o) : (gath h its).get? b = some o :=
  (Heap.get?_update_other _ _ (Nat.ne_of_gt (Heap.lt_size e))).trans (Heap.get?_push_of_some _ e)
theorem gath_size (h : Heap) (its : Array Value) : (gath h its).objs.size = h.objs.size + 1 := by
  rw [Heap.size_update, size_push']
theorem gather_tuple {P : Program} {w : World} {A : Around} {E : Value → Shared → Prop} {s : Shared} {t : Addr} {o : Obj} {its : Array Value} {n : Nat} {Q : List Value → Shared → Prop} (ho : s.heap.get? t = some o) (hc : o.cls = .type "tuple") (hd : o.data = .seq its n)
    (few : its.size ≤ sizeLine) (q : Q its.toList { s with heap := gath s.heap its }) : wpAny (model P w) A (collect (.ref t)) Q E s := by
  have new : (s.heap.push { cls := .type "list", data := .seq ([] : List Value).toArray }).get? s.heap.objs.size = some { cls := .type "list", data := .seq #[] 0 } := Heap.get?_push_size _ rfl
  have full := Heap.get?_update_self (Obj.mapSeq (· ++ its)) new rfl
  unfold collect
  apply wpAny_bind
  apply wpAny_runValue
  refine codeAny_builtin F.entry_proto_collect ?_
  rw [Around.under_plainId F.plain_proto_collect _]
  show wpAny _ A.in1 (newList [] >>= fun l => again (.builtin "list.__iadd__" ⟨[l, .ref t], []⟩)) _ _ s
  refine wpAny_bind (wpAny_newObj_type (wpAny_pure ⟨plainId_quiet F.plain_list_iadd _, codeAny_builtin F.entry_list_iadd ?_⟩))
  rw [Around.under_plainId F.plain_list_iadd _]
  have fin : wpAny (model P w) A (match Value.ref s.heap.objs.size with
      | Value.ref a => do
        match (← load a).data with
          | Data.seq xs _ => pure xs.toList
          | _ => unsupported "internal:collect"
      | _ => unsupported "internal:collect") Q E { s with heap := gath s.heap its } := by
    show wpAny _ A (load s.heap.objs.size >>= _) _ _ _
    refine wpAny_bind (wpAny_load full (wpAny_pure ?_))
    show Q ((#[] : Array Value) ++ its).toList _
    rw [show ((#[] : Array Value) ++ its).toList = its.toList by simp]
    exact q
  refine wpAny_mono (wpAny_extend_seq (hsz := few) (A := A) (R := fun r t' => r = .ok (.ret (.ref s.heap.objs.size)) ∧ t' = { s with heap := gath s.heap its }) (s := { s with heap := s.heap.push { cls := .type "list", data := .seq ([] : List Value).toArray } }) _ t _ 0 (.inr rfl) new (Heap.get?_push_of_some _ ho) hc hd ⟨rfl, rfl⟩) ?_ ?_
  · intro f t' hf
    cases f with
    | done r =>
      obtain ⟨e, rfl⟩ := hf
      cases e
      exact fin
    | again c =>
      refine ⟨hf.1, codeAny_mono hf.2 ?_⟩
      rintro r t2 ⟨rfl, rfl⟩
      exact fin
  · rintro e t' ⟨z, _⟩
    cases z
/-- sorted(t) of a tuple of ints -/
def rSortT (K : PySem.W.Frag) : List V → Hp → VK → Prop := fun vs H Q => ∃ (a : Addr) (ns : List Int), vs = [V.ref a] ∧ SqT K H a (ns.map V.int) ∧ ns.length < 64 ∧
  ∀ (ms : List Int) (p : Addr), ms.Perm ns → ms.Pairwise (· ≤ ·) → H p = none → Q (.ref p) (upd H p (.lst (ms.map V.int)))
theorem call_sortT {X : Cx} : CallR X (.builtin "sorted") (rSortT X.K) := by
  intro pins s σ H vs us Q I r h
  obtain ⟨a, ns, rfl, hS, few, q⟩ := h
  obtain ⟨its, rv, pt, _⟩ := I.tuple hS
  rw [Vals.ref1 r]
  have hi : IntsAre its ns := ints_of_vals rv
  obtain ⟨o, ho, hc, n, hd⟩ := id pt
  refine Calls.call_function_entry kind_sorted plain_sorted entry_sorted (args_sorted1 _) ?_
  unfold Builtin.«sorted»
  refine wpAny_bind (m := checkCount "sorted" 1 1 _) (wpAny_pure ?_)
  refine wpAny_bind (gather_tuple (A := X.A.in1) ho hc hd (by rw [List.size_toArray, hi.length, sizeLine_eq]; omega) ?_)
  generalize hg : gath s.heap its.toArray = h'
  have hk : ∀ b u, s.heap.get? b = some u → h'.get? b = some u := fun b u e => by
    rw [← hg]
    exact gath_old e
  show wpAny _ _ _ _ _ { s with heap := h' }
  have len : its.length < 64 := by rw [hi.length]; exact few
  refine wpAny_bind (wpAny_newList ?_ (by show its.length ≤ _; rw [sizeLine_eq]; omega))
  have hoL : (h'.push (seqObj "list" its.toArray 0)).get? h'.objs.size = some (seqObj "list" its.toArray 0) := Heap.get?_push_size _ rfl
  refine wpAny_bind (wpAny_holding (wpAny_call_entry slot_list_sort ⟨_, hoL, rfl⟩ entry_list_sort (list_sort_tree hoL hi len fun out ms a1 a2 a3 => ⟨_, rfl, ?_⟩) (args_list_sort _)))
  obtain ⟨c, hcc⟩ := sortedHeap_at (vs := its) (out := out) hoL
  have keep : ∀ b u, s.heap.get? b = some u → (sortedHeap (h'.push (seqObj "list" its.toArray 0)) h'.objs.size its out).get? b = some u := by
    intro b u e
    have e2 := hk b u e
    have lt := Heap.lt_size e2
    rw [sortedHeap_old (Nat.ne_of_lt lt) (by rw [size_push']; exact Nat.lt_succ_of_lt lt)]
    exact Heap.get?_push_of_some _ e2
  have hz : s.heap.objs.size ≤ h'.objs.size := by
    rw [← hg, gath_size]
    exact Nat.le_succ _
  have few2 : (ms.map V.int).length ≤ sizeLine := by rw [List.length_map, a2.length_eq]; exact small64 few
  exact wpAny_pure ⟨_, rfl, .ref _, upd H h'.objs.size (.lst (ms.map V.int)), I.laid (t' := s.toks) keep hz ⟨few2, out.toList, c, vals_of_ints a1, hcc⟩, rfl, q ms _ a2 a3 (I.hok.fresh hz)⟩
end Gd
set_option Elab.async false
set_option linter.all false
set_option maxRecDepth 100000
set_option maxHeartbeats 4000000
/-! Ti: sorted(..) of a list or tuple of tuples of ints, none of which is empty. -/
namespace Gd
open PySem PySem.Spec PyProof.Rows L2 SrtO
/-! ### the order of int lists -/
def lexI : List Int → List Int → Bool
  | [], [] => false
  | [], _ :: _ => true
  | _ :: _, [] => false
  | x :: xs, y :: ys => if x = y then lexI xs ys else decide (x < y)
theorem lexI_eq {x : Int} {xs ys : List Int} : lexI (x :: xs) (x :: ys) = lexI xs ys := by
  show (if x = x then lexI xs ys else decide (x < x)) = _
  rw [if_pos rfl]
theorem lexI_ne {x y : Int} {xs ys : List Int} (h : x ≠ y) : lexI (x :: xs) (y :: ys) = decide (x < y) := if_neg h
theorem lexI_asym : ∀ x y : List Int, lexI x y = true → lexI y x = false
  | [], [], h => by cases h
  | [], _ :: _, _ => rfl
  | _ :: _, [], h => by cases h
  | x :: xs, y :: ys, h => by
    by_cases e : x = y
    · subst e
      rw [lexI_eq] at h ⊢
      exact lexI_asym xs ys h
    · rw [lexI_ne e, decide_eq_true_eq] at h
      rw [lexI_ne (Ne.symm e), decide_eq_false_iff_not]
      omega
theorem lexI_tr : ∀ x y z : List Int, lexI y x = false → lexI z y = false → lexI z x = false
  | [], _, [], _, _ => rfl
  | [], _, _ :: _, _, _ => rfl
  | _ :: _, [], _, h, _ => by cases h
  | _ :: _, _ :: _, [], _, h => by cases h
  | x :: xs, y :: ys, z :: zs, h1, h2 => by
    by_cases e1 : y = x
    · subst e1
      rw [lexI_eq] at h1
      by_cases e2 : z = y
      · subst e2
        rw [lexI_eq] at h2 ⊢
        exact lexI_tr xs ys zs h1 h2
      · rw [lexI_ne e2] at h2 ⊢
        exact h2
    · rw [lexI_ne e1, decide_eq_false_iff_not] at h1
      by_cases e2 : z = y
      · subst e2
        rw [lexI_ne e1, decide_eq_false_iff_not]
        omega
      · rw [lexI_ne e2, decide_eq_false_iff_not] at h2
        rw [lexI_ne (by omega), decide_eq_false_iff_not]
        omega
theorem lexI_swo {α : Type} (k : α → List Int) : Swo fun v u => lexI (k v) (k u) := ⟨fun x y => lexI_asym (k x) (k y), fun x y z => lexI_tr (k x) (k y) (k z)⟩
theorem lexI_tot : ∀ x y : List Int, lexI x y = false → lexI y x = false → x = y
  | [], [], _, _ => rfl
  | [], _ :: _, h, _ => by cases h
  | _ :: _, [], _, h => by cases h
  | x :: xs, y :: ys, h1, h2 => by
    by_cases e : x = y
    · subst e
      rw [lexI_eq] at h1 h2
      rw [lexI_tot xs ys h1 h2]
    · rw [lexI_ne e, decide_eq_false_iff_not] at h1
      rw [lexI_ne (Ne.symm e), decide_eq_false_iff_not] at h2
      omega
/-- v is a tuple of these ints -/
def IsIT (h : Heap) (v : Value) (ns : List Int) : Prop := ∃ a o its n, v = .ref a ∧ h.get? a = some o ∧ o.cls = .type "tuple" ∧ o.data = .seq its n ∧ Vals (ns.map V.int) its.toList
section
variable {prog : Program} {w : World} {A : Around} {s : Shared} {E : Value → Shared → Prop}
theorem lex_run {b fin : Bool} {Q : Bool → Shared → Prop} : ∀ (xs ys : List Int) (us ws : List Value) (i : Nat), Vals (xs.map V.int) us → Vals (ys.map V.int) ws → fin = decide (xs.length < ys.length) → Q (lexI xs ys) s → PySem.W.KatLex prog w A b fin Q (us.zip ws) i s
  | [], ys, _, ws, i, .nil, r2, e, q => by
    have z : fin = lexI [] ys := by
      rw [e]
      cases ys with
      | nil => rfl
      | cons y t => exact decide_eq_true (Nat.succ_pos _)
    subst z
    exact PySem.W.kat_nil q
  | x :: xs, [], u :: us, _, i, .cons r r1, .nil, e, q => by
    have z : fin = lexI (x :: xs) [] := by
      rw [e]
      exact decide_eq_false (Nat.not_lt_zero _)
    subst z
    exact PySem.W.kat_nil q
  | x :: xs, y :: ys, u :: us, v :: ws, i, .cons r r1, .cons r' r2, e, q => by
    obtain ⟨t, rfl⟩ := (show ∃ t, u = Value.int x t from r)
    obtain ⟨t', rfl⟩ := (show ∃ t, v = Value.int y t from r')
    refine PySem.W.kat_cons (SeqAt.EqAt.int_int x t y t' prog w _ _ ?_)
    refine PySem.W.kat_go (fun e1 => ?_) (fun e1 => ?_)
    · have ex : x = y := by simpa using e1
      subst ex
      rw [lexI_eq] at q
      exact PySem.W.kat_yes (lex_run xs ys us ws (i + 1) r1 r2 (by
        rw [e]
        exact decide_eq_decide.mpr (by simp)) q)
    · have ex : ¬ x = y := by simpa using e1
      rw [lexI_ne ex] at q
      exact PySem.W.kat_no (TS.oneLt_ints _ q)
theorem tup_cmp {vs : List Value} {k : Value → List Int} (hp : ∀ v ∈ vs, IsIT s.heap v (k v)) : Cmp prog w A s (tuples' true) (fun p => p.1 ∈ vs) (lt2 fun v u => lexI (k v) (k u)) := by
  intro p q hm hm'
  have h1 := hp _ hm
  have h2 := hp _ hm'
  show wpAny (model prog w) A (keyLt' (tuples' true) p.1 q.1) (fun r s' => s' = s ∧ r = lexI (k p.1) (k q.1)) (fun _ _ => False) s
  generalize k p.1 = xs at h1 ⊢
  generalize k q.1 = ys at h2 ⊢
  obtain ⟨a, o, its, n, e, ho, hc, hd, rv⟩ := h1
  obtain ⟨a', o', its', n', e', ho', hc', hd', rv'⟩ := h2
  rw [e, e']
  refine PySem.W.kat_lt ho hd ho' hd' (lex_run xs ys _ _ 0 rv rv' ?_ ⟨rfl, rfl⟩)
  have l1 : xs.length = its.size := by
    have z := rv.length
    rw [List.length_map] at z
    simpa using z
  have l2 : ys.length = its'.size := by
    have z := rv'.length
    rw [List.length_map] at z
    simpa using z
  rw [l1, l2]
theorem firstsI {h : Heap} {k : Value → List Int} : ∀ vs : List Value, (∀ v ∈ vs, IsIT h v (k v) ∧ k v ≠ []) → ∃ fs, PySem.W.KatTups h vs fs ∧ fs.length = vs.length ∧ ∀ f ∈ fs, ∃ x t, f = .int x t
  | [], _ => ⟨[], .nil, rfl, fun f hf => by cases hf⟩
  | v :: vs, hp => by
    obtain ⟨fs, t, l, hf⟩ := firstsI (h := h) (k := k) vs fun u hu => hp u (List.mem_cons_of_mem _ hu)
    obtain ⟨⟨a, o, its, n, e, ho, hc, hd, rv⟩, ne⟩ := hp v List.mem_cons_self
    cases hk : k v with
    | nil => exact absurd hk ne
    | cons x xs =>
      rw [hk] at rv
      obtain ⟨l0⟩ := its
      cases rv with
      | @cons _ u _ us r rs =>
        obtain ⟨tk, rfl⟩ := (show ∃ t, u = Value.int x t from r)
        subst e
        exact ⟨.int x tk :: fs, .cons ho hc hd (by rfl) t, by rw [List.length_cons, l]; rfl, fun f hm => by
          rcases List.mem_cons.mp hm with rfl | hm
          · exact ⟨x, tk, rfl⟩
          · exact hf f hm⟩
theorem tups_sortable {a : Addr} {vs : List Value} {k : Value → List Int} (h0 : 0 < vs.length) (hp : ∀ v ∈ vs, IsIT s.heap v (k v) ∧ k v ≠ []) (ha : ∀ o, s.heap.get? a = some o → o.cls ≠ .type "tuple") : SortableO prog w A s a vs fun v u => lexI (k v) (k u) := by
  intro h' keep
  have hp' : ∀ v ∈ vs, IsIT h' v (k v) ∧ k v ≠ [] := fun v hm => by
    obtain ⟨⟨b, o, its, n, e, ho, hc, hd, rv⟩, ne⟩ := hp v hm
    exact ⟨⟨b, o, its, n, e, keep b o (fun z => by subst z; exact ha o ho hc) ho, hc, hd, rv⟩, ne⟩
  obtain ⟨fs, h1, h2, h3⟩ := firstsI vs hp'
  refine ⟨tuples' true, fun Q E hq => ?_, tup_cmp fun v hv => (hp' v hv).1⟩
  refine PySem.W.kat_kind (T := .type "int") h1 (by omega) (fun f hm => ?_) (by rfl) ?_
  · obtain ⟨x, t, rfl⟩ := h3 f hm
    exact PySem.W.Looks.now
  · have e : (Value.type "int" != Value.type "tuple") = true := by first | decide +kernel | rfl | decide
    rw [e]
    exact hq
end
abbrev ltI (k : V → List Int) (x y : V) : Bool := lexI (k x) (k y)
/-- sorted(xs), xs a list or tuple of tuples of ints, none empty (k says which) -/
def rSortI2 (K : PySem.W.Frag) : List V → Hp → VK → Prop := fun vs H Q => ∃ (a : Addr) (xs : List V) (k : V → List Int), vs = [V.ref a] ∧ (SqL K H a xs ∨ SqT K H a xs) ∧ (∀ x ∈ xs, ∃ t, x = V.ref t ∧ SqT K H t ((k x).map V.int) ∧ k x ≠ []) ∧
  ∀ ys p, Srtd (ltI k) ys → Stb (ltI k) ys xs → H p = none → Q (.ref p) (upd H p (.lst ys))
theorem call_sortI2 {X : Cx} : CallR X (.builtin "sorted") (rSortI2 X.K) := by
  intro pins s σ H vs us Q I r h
  obtain ⟨a, xs, k, rfl, hs, hx, q⟩ := h
  obtain ⟨u, rfl, ru⟩ := vals1 r
  obtain rfl : u = Value.ref a := ru
  have items : ∀ {its : List Value}, Vals xs its → xs = its.map backV ∧ (∀ u ∈ its, ∃ a, u = Value.ref a) ∧ ∀ v ∈ its, IsIT s.heap v (k (backV v)) ∧ k (backV v) ≠ [] := fun {its} rv => by
    obtain ⟨e1, e2⟩ := refs_back rv fun x m => by
      obtain ⟨t, e, _⟩ := hx x m
      exact ⟨t, e⟩
    refine ⟨e1, e2, fun v hv => ?_⟩
    obtain ⟨t, rfl⟩ := e2 v hv
    have hm : V.ref t ∈ xs := by rw [e1]; exact List.mem_map.mpr ⟨_, hv, rfl⟩
    obtain ⟨t', e, ht, ne⟩ := hx _ hm
    cases e
    obtain ⟨its2, r2, ⟨o, ho, hc, n, hd⟩, _⟩ := I.tuple ht
    exact ⟨⟨t, o, its2.toArray, n, rfl, ho, hc, hd, r2⟩, ne⟩
  have fin : ∀ {its out : List Value} {h' : Heap} {d c : Nat}, Vals xs its → xs.length ≤ sizeLine → (∀ b o, s.heap.get? b = some o → h'.get? b = some o) → s.heap.objs.size ≤ d → h'.get? d = some (seqObj "list" out.toArray c) →
      Srtd (fun v u => lexI (k (backV v)) (k (backV u))) out → Stb (fun v u => lexI (k (backV v)) (k (backV u))) out its → EP X pins σ Q (.ref d) { s with heap := h' } := fun {its out h' d c} rv hz kp hd hn h1 h2 => by
    obtain ⟨e1, e2, _⟩ := items rv
    have h3 : ∀ u ∈ out, ∃ a, u = Value.ref a := fun u hu => e2 u (h2.perm.mem_iff.mp hu)
    have hb : Stb (ltI k) (out.map backV) xs := by
      rw [e1]
      exact Stb.map (lexI_swo k) backV h2
    refine ⟨.ref d, upd H d (.lst (out.map backV)), I.laid (t' := s.toks) kp hd ⟨?_, out, c, vals_back h3, hn⟩, rfl, q _ d (srtd_map h1) hb (I.hok.fresh hd)⟩
    rw [hb.len]
    exact hz
  rcases hs with hs | hs
  · obtain ⟨its, rv, hl, hz⟩ := I.list hs
    obtain ⟨e1, e2, e3⟩ := items rv
    refine sorted_ord (lexI_swo fun v => k (backV v)) hl.isList (by rw [← rv.length]; exact hz) (fun h2 h₁ a' ha kk => ?_) fun out h1 h2 => ?_
    · refine tups_sortable (s := { s with heap := h₁ }) (by omega) (fun v hm => ?_) fun o e => ?_
      · obtain ⟨⟨b, o, its2, n, e, ho, hc, hd, rv2⟩, ne⟩ := e3 v hm
        exact ⟨⟨b, o, its2, n, e, (kk b o ho).2, hc, hd, rv2⟩, ne⟩
      · have e' : some o = some (seqObj "list" its.toArray 0) := e.symm.trans ha
        cases e'
        intro c
        exact absurd (Value.type.inj c) (by decide)
    · obtain ⟨c, hcc⟩ := sortedAll_at s.heap its out.toArray
      exact fin rv hz (fun b o e => sortedAll_old e) (Nat.le_succ _) hcc h1 h2
  · obtain ⟨its, rv, pt, hz⟩ := I.tuple hs
    obtain ⟨e1, e2, e3⟩ := items rv
    obtain ⟨o, ho, hc, n, hd⟩ := id pt
    have len : its.length ≤ sizeLine := by rw [← rv.length]; exact hz
    refine Calls.call_function_entry kind_sorted plain_sorted entry_sorted (args_sorted1 _) ?_
    unfold Builtin.«sorted»
    refine wpAny_bind (m := checkCount "sorted" 1 1 _) (wpAny_pure ?_)
    refine wpAny_bind (gather_tuple (A := X.A.in1) ho hc hd (by rw [List.size_toArray]; exact len) ?_)
    generalize hg : gath s.heap its.toArray = h'
    have hk : ∀ b u, s.heap.get? b = some u → h'.get? b = some u := fun b u e => by
      rw [← hg]
      exact gath_old e
    show wpAny _ _ _ _ _ { s with heap := h' }
    refine wpAny_bind (wpAny_newList ?_ (by show its.length ≤ _; exact len))
    have hoL : (h'.push (seqObj "list" its.toArray 0)).get? h'.objs.size = some (seqObj "list" its.toArray 0) := Heap.get?_push_size _ rfl
    have hz0 : s.heap.objs.size ≤ h'.objs.size := by
      rw [← hg, gath_size]
      exact Nat.le_succ _
    refine wpAny_bind (wpAny_holding (wpAny_call_entry slot_list_sort ⟨_, hoL, rfl⟩ entry_list_sort (list_sort_ord (lexI_swo fun v => k (backV v)) hoL len (fun h2 => ?_) fun out h1 h2 => ⟨_, rfl, ?_⟩) (args_list_sort _)))
    · refine tups_sortable (by omega) (fun v hm => ?_) fun o e => ?_
      · obtain ⟨⟨b, o, its2, n, e, ho, hc, hd, rv2⟩, ne⟩ := e3 v hm
        exact ⟨⟨b, o, its2, n, e, Heap.get?_push_of_some _ (hk b o ho), hc, hd, rv2⟩, ne⟩
      · have e' : some o = some (seqObj "list" its.toArray 0) := e.symm.trans hoL
        cases e'
        intro c
        exact absurd (Value.type.inj c) (by decide)
    · obtain ⟨c, hcc⟩ := sortedHeap_at (vs := its) (out := out.toArray) hoL
      have keep : ∀ b u, s.heap.get? b = some u → (sortedHeap (h'.push (seqObj "list" its.toArray 0)) h'.objs.size its out.toArray).get? b = some u := by
        intro b u e
        have e2 := hk b u e
        have lt := Heap.lt_size e2
        rw [sortedHeap_old (Nat.ne_of_lt lt) (by rw [size_push']; exact Nat.lt_succ_of_lt lt)]
        exact Heap.get?_push_of_some _ e2
      exact wpAny_pure ⟨_, rfl, fin rv hz keep hz0 hcc h1 h2⟩
end Gd
set_option Elab.async false
set_option linter.all false
set_option maxRecDepth 100000
set_option maxHeartbeats 4000000
/-! Jq: values as a judge sees them: their kinds, to any depth of tuples. -/
namespace Gd
open PySem PySem.Spec PyProof.Rows L2
inductive Jv where
  | non | bl (b : Bool) | int (i : Int) | str (x : Str) | lst | dic | obj (C : Addr) | tup (js : List Jv)
/-- an own class whose instances are none of the built-in kinds -/
structure PlainC (K : PySem.W.Frag) (C : Addr) : Prop where
  cl : Cls K C
  ha : PySem.W.findIn K (.ref C) "__class__" = some (some (.builtin "object.__class__"))
  hn : PySem.W.specialIn K (.builtin "object.__class__") "__get__" = some (some (.builtin "getset_descriptor.__get__"))
  ht : PySem.W.takesIn K (.builtin "object.__class__") = some true
  hm : PySem.W.mroIn K C (.type "object") = some true
  no : ∀ T, (T = "int" ∨ T = "bool" ∨ T = "str" ∨ T = "tuple" ∨ T = "dict") → PySem.W.kitOne K (.ref C) (.type T) = some false
mutual
inductive Js (K : PySem.W.Frag) (H : Hp) : V → Jv → Prop
  | non : Js K H .non .non
  | bl (b : Bool) : Js K H (.bl b) (.bl b)
  | int (i : Int) : Js K H (.int i) (.int i)
  | str (x : Str) (few : x.length ≤ 1000) : Js K H (.str x) (.str x)
  | lst {a : Addr} {xs : List V} (h : H a = some (.lst xs)) : Js K H (.ref a) .lst
  | dic {a : Addr} {kvs : List (Key × V)} (h : H a = some (.dK kvs)) : Js K H (.ref a) .dic
  | obj {a C dx : Addr} {fs : List (Str × V)} (h : H a = some (.ins C dx fs)) (c : PlainC K C) : Js K H (.ref a) (.obj C)
  | tup {a : Addr} {xs : List V} {js : List Jv} (h : SqT K H a xs) (few : xs.length ≤ 1000) (r : JsAll K H xs js) : Js K H (.ref a) (.tup js)
inductive JsAll (K : PySem.W.Frag) (H : Hp) : List V → List Jv → Prop
  | nil : JsAll K H [] []
  | cons {v : V} {vs : List V} {j : Jv} {js : List Jv} (h : Js K H v j) (r : JsAll K H vs js) : JsAll K H (v :: vs) (j :: js)
end
section
variable {K : PySem.W.Frag} {H G : Hp}
mutual
theorem Js.same (s : Same H G) : ∀ {v : V} {j : Jv}, Js K H v j → Js K G v j
  | _, _, .non => .non
  | _, _, .bl b => .bl b
  | _, _, .int i => .int i
  | _, _, .str x few => .str x few
  | _, _, .lst h => .lst (s _ _ h)
  | _, _, .dic h => .dic (s _ _ h)
  | _, _, .obj h c => .obj (s _ _ h) c
  | _, _, .tup h few r => .tup (s.tupS h) few (JsAll.same s r)
theorem JsAll.same (s : Same H G) : ∀ {vs : List V} {js : List Jv}, JsAll K H vs js → JsAll K G vs js
  | _, _, .nil => .nil
  | _, _, .cons h r => .cons (Js.same s h) (JsAll.same s r)
end
theorem JsAll.len : ∀ {vs : List V} {js : List Jv}, JsAll K H vs js → vs.length = js.length
  | _, _, .nil => rfl
  | _, _, .cons _ r => congrArg (· + 1) (JsAll.len r)
theorem JsAll.get : ∀ {vs : List V} {js : List Jv} {i : Nat} {x : V}, JsAll K H vs js → vs[i]? = some x → ∃ j, js[i]? = some j ∧ Js K H x j
  | _, _, _, _, .nil, e => by simp at e
  | _, _, 0, _, .cons h _, e => by
    cases (Option.some.inj e)
    exact ⟨_, rfl, h⟩
  | _, _, i + 1, x, .cons _ r, e => JsAll.get (i := i) (x := x) r (by simpa using e)
def Jv.ty : Jv → Value
  | .non => .type "NoneType"
  | .bl _ => .type "bool"
  | .int _ => .type "int"
  | .str _ => .type "str"
  | .lst => .type "list"
  | .dic => .type "dict"
  | .obj C => .ref C
  | .tup _ => .type "tuple"
theorem Js.tyX {v : V} {j : Jv} (h : Js K H v j) : TyX K H v j.ty := by
  cases h with
  | non => exact .base .non
  | bl b => exact .base (.bl b)
  | int i => exact .base (.int i)
  | str x few => exact .base (.str x)
  | lst h => exact .base (.lst h)
  | dic h => exact .base (.dK h)
  | obj h c => exact .base (.ins h c.cl c.ha c.hn c.ht c.hm)
  | tup h few r =>
    rcases h with (h | ⟨o, h⟩) | ⟨o, its, n, hk, hc, _⟩
    · exact .base (.tup h)
    · exact .fTuple h
    · exact .kTuple hk hc
/-- isinstance of a built-in kind -/
def kindIs (n T : String) : Bool := n == T || (n == "bool" && T == "int")
def Jv.is : Jv → String → Bool
  | .non, T => kindIs "NoneType" T
  | .bl _, T => kindIs "bool" T
  | .int _, T => kindIs "int" T
  | .str _, T => kindIs "str" T
  | .lst, T => kindIs "list" T
  | .dic, T => kindIs "dict" T
  | .obj _, _ => false
  | .tup _, T => kindIs "tuple" T
theorem Js.kit {v : V} {j : Jv} (h : Js K H v j) {T : String} (hT : T = "int" ∨ T = "bool" ∨ T = "str" ∨ T = "tuple" ∨ T = "dict") : PySem.W.kitOne K j.ty (.type T) = some (j.is T) := by
  cases h with
  | obj h c => exact c.no T hT
  | non => rcases hT with rfl | rfl | rfl | rfl | rfl <;> exact kit_ty (show kitB "NoneType" _ = some (kindIs "NoneType" _) by decide +kernel)
  | bl b => rcases hT with rfl | rfl | rfl | rfl | rfl <;> exact kit_ty (show kitB "bool" _ = some (kindIs "bool" _) by decide +kernel)
  | int i => rcases hT with rfl | rfl | rfl | rfl | rfl <;> exact kit_ty (show kitB "int" _ = some (kindIs "int" _) by decide +kernel)
  | str x few => rcases hT with rfl | rfl | rfl | rfl | rfl <;> exact kit_ty (show kitB "str" _ = some (kindIs "str" _) by decide +kernel)
  | lst h => rcases hT with rfl | rfl | rfl | rfl | rfl <;> exact kit_ty (show kitB "list" _ = some (kindIs "list" _) by decide +kernel)
  | dic h => rcases hT with rfl | rfl | rfl | rfl | rfl <;> exact kit_ty (show kitB "dict" _ = some (kindIs "dict" _) by decide +kernel)
  | tup h few r => rcases hT with rfl | rfl | rfl | rfl | rfl <;> exact kit_ty (show kitB "tuple" _ = some (kindIs "tuple" _) by decide +kernel)
theorem Js.isi {v : V} {j : Jv} {R : Bool → Prop} (h : Js K H v j) {T : String} (hT : T = "int" ∨ T = "bool" ∨ T = "str" ∨ T = "tuple" ∨ T = "dict") (q : R (j.is T)) :
    ∃ (x c : V) (t u : Value) (b : Bool), [v, V.ty T] = [x, c] ∧ ClsV c u ∧ TyX K H x t ∧ PySem.W.kitOne K t u = some b ∧ R b :=
  ⟨_, _, _, _, _, rfl, .ty _, h.tyX, h.kit hT, q⟩
end
/-! ### one < other: ints, texts, tuples of ints -/
inductive Lt3 (K : PySem.W.Frag) (H : Hp) : V → V → Bool → Prop
  | int (i j : Int) : Lt3 K H (.int i) (.int j) (decide (i < j))
  | str (x y : Str) : Lt3 K H (.str x) (.str y) (decide (x.cps.toList < y.cps.toList))
  | tup {a b : Addr} {ns ms : List Int} (h1 : SqT K H a (ns.map V.int)) (h2 : SqT K H b (ms.map V.int)) : Lt3 K H (.ref a) (.ref b) (HT.lexLt ns ms)
theorem Lt3.same {K : PySem.W.Frag} {H G : Hp} {x y : V} {b : Bool} (s : Same H G) (h : Lt3 K H x y b) : Lt3 K G x y b := by
  cases h with
  | int i j => exact .int i j
  | str x y => exact .str x y
  | tup h1 h2 => exact .tup (s.tupS h1) (s.tupS h2)
def rLt3 (K : PySem.W.Frag) : R2 := fun x y H Q => ∃ b, Lt3 K H x y b ∧ Q (.bl b) H
theorem op_lt3 {X : Cx} (hu : X.A.units < cLine) : OpR X (compareOp .Lt) (rLt3 X.K) := by
  intro pins s σ H x y v u Q I rx ry h
  obtain ⟨b, h, q⟩ := h
  cases h with
  | int i j => exact op_lt pins s σ H _ _ v u Q I rx ry ⟨i, j, rfl, rfl, q⟩
  | str x y => exact op_lt_str pins s σ H _ _ v u Q I rx ry ⟨x, y, rfl, rfl, q⟩
  | tup h1 h2 => exact op_ltT hu pins s σ H _ _ v u Q I rx ry ⟨_, _, _, _, rfl, rfl, h1, h2, q⟩
/-- whether each is below the next one -/
def allAdj (lt : V → V → Bool) : List V → Bool
  | x :: y :: r => lt x y && allAdj lt (y :: r)
  | _ => true
def adjs (lt : V → V → Bool) (xs : List V) : List Bool := (xs.zip (xs.drop 1)).map fun p => lt p.1 p.2
theorem adjs_all (lt : V → V → Bool) : ∀ xs : List V, (adjs lt xs).all id = allAdj lt xs
  | [] => rfl
  | [x] => rfl
  | x :: y :: r => by
    have ih := adjs_all lt (y :: r)
    show ((lt x y :: adjs lt (y :: r)).all id) = (lt x y && allAdj lt (y :: r))
    rw [List.all_cons, ih]
    rfl
theorem adjs_len (lt : V → V → Bool) (xs : List V) : (adjs lt xs).length = xs.length - 1 := by
  unfold adjs
  rw [List.length_map, List.length_zip, List.length_drop]
  omega
theorem adjs_get (lt : V → V → Bool) (xs : List V) (i : Nat) (x y : V) (hx : xs[i]? = some x) (hy : xs[i + 1]? = some y) : (adjs lt xs)[i]? = some (lt x y) := by
  unfold adjs
  have z : (xs.zip (xs.drop 1))[i]? = some (x, y) := List.getElem?_zip_eq_some.mpr ⟨hx, by rw [List.getElem?_drop, Nat.add_comm]; exact hy⟩
  rw [List.getElem?_map, z]
  rfl
end Gd
set_option Elab.async false
set_option linter.all false
set_option maxRecDepth 100000
set_option maxHeartbeats 4000000
/-! Ow: what an own class says of in, [], len, ==, !=, str and for. -/
namespace Gd
open PySem PySem.Spec PyProof.Rows L2
section
variable {X : Cx} {CX : CXT} {k : Nat} {f : Addr} {fd : FuncData} {ps : List Str} {sp : Sp} {E : XK} {C : Addr}
/-- an own def, called from a built-in -/
theorem own_call {A : Around} {pins : List (Addr × Obj)} {s : Shared} {σ : L2.St} {H : Hp} {vs : List V} {us : List Value} {Q : VK} (F : FnOk X.prog X.w X.K X.mg X.base CX k f fd ps sp) (sb : Sub X k A) (hb : Binds X.K fd ps []) (hx : Passes CX X E)
    (I : Inv X pins σ H s) (rv : Vals vs us) (hsp : sp vs H Q E) : wpAny (model X.prog X.w) A (call (.ref f) us) (EP X pins σ Q) X.xe s := by
  have e0 : Env0 X.prog X.w X.K X.mg X.base A X.stack s H := by
    have e := I.env0
    exact ⟨by rw [sb.fr]; exact e.frames, e.mod, e.bs, e.bsz, e.funs, e.frf, e.hok, e.bare⟩
  have hl := F.len _ _ _ _ hsp
  refine wpAny_call (codeAny_mono (F.run A X.stack s H ⟨us, []⟩ us vs Q E sb.room e0 (by
    have := hb s us I.kIn (by rw [List.append_nil, ← rv.length]; exact hl)
    simpa using this) rv hsp) fun r s' hq => ?_)
  cases r with
  | error e => exact hx pins σ H s e s' I hq
  | ok fl =>
    cases fl with
    | ret w => exact I.after hq
    | next => exact False.elim hq
    | brk => exact False.elim hq
    | cont => exact False.elim hq
/-- the class at C has this def under this name -/
structure Dun (K : PySem.W.Frag) (C f : Addr) (name : Str) : Prop where
  at_ : PySem.W.findIn K (.ref C) name = some (some (.ref f))
  fn : PySem.W.isFn K (.ref f) = true
  fin : PySem.W.fnIn K f = true
theorem unlessNone_fn {M : Model} {A : Around} {s : Shared} {K : PySem.W.Frag} {x : Addr} {ox : Obj} {od : Option Obj} {name : Str} {args : List Value} {refuse : Sem Value} {Er : Value → Shared → Prop} {Q : Option Value → Shared → Prop} (kin : K.In s.heap) (J : PySem.W.InstAt s.heap x ox C od) (D : Dun K C f name)
    (h : wpAny M A (call (.ref f) (.ref x :: args)) (fun v => Q (some v)) Er s) : wpAny M A (callSpecialUnlessNone? (.ref x) name args refuse) Q Er s := by
  refine wpAny_bind (wpAny_bind (J.type.here ((PySem.W.looks_findIn kin D.at_).here (wpAny_holding (wpAny_bind ((PySem.W.bind_fn kin _ (beq_iff_eq.mp D.fn)).here ?_))))))
  show wpAny M A (if (Value.ref f == Value.none) = true then (refuse >>= fun v => pure (some v)) else (call (.ref f) ([.ref x] ++ args) >>= fun v => pure (some v))) Q Er s
  rw [if_neg (show ¬ ((Value.ref f == Value.none) = true) from Bool.false_ne_true)]
  exact wpAny_bind (wpAny_mono h (fun _ _ z => wpAny_pure z) fun _ _ z => z)
/-! ### x in o, x not in o -/
def rInOwn (C : Addr) (sp : Sp) (E : XK) (neg : Bool) : R2 := fun x y H Q => ∃ a dx fs, y = .ref a ∧ H a = some (.ins C dx fs) ∧ sp [.ref a, x] H (fun v G => ∃ b : Bool, v = .bl b ∧ Q (.bl (if neg = true then !b else b)) G) E
theorem contains_own {pins : List (Addr × Obj)} {s : Shared} {σ : L2.St} {H : Hp} {a dx : Addr} {fs : List (Str × V)} {x : V} {u : Value} {R : Bool → Shared → Prop} {Q : VK} (F : FnOk X.prog X.w X.K X.mg X.base CX k f fd ps sp) (hr : Room k X.A) (hb : Binds X.K fd ps []) (hx : Passes CX X E) (D : Dun X.K C f "__contains__")
    (I : Inv X pins σ H s) (rx : RelV x u) (ha : H a = some (.ins C dx fs)) (hsp : sp [.ref a, x] H (fun v G => ∃ b : Bool, v = .bl b ∧ Q (.bl b) G) E) (q : ∀ b H' s', Inv X pins σ H' s' → Q (.bl b) H' → R b s') : wpAny (model X.prog X.w) X.A (contains (.ref a) u) R X.xe s := by
  obtain ⟨mA, J, _⟩ := ins_get I.hok ha
  obtain ⟨od, J, _⟩ := J.look
  unfold contains
  refine wpAny_holding ?_
  show wpAny _ _ (specialOf (.ref a) "__contains__" >>= _) _ _ _
  refine wpAny_bind (wpAny_bind (J.type.here ((PySem.W.looks_findIn I.kIn D.at_).here ?_)))
  show wpAny _ _ (if (some (Value.ref f) == some Value.none) = true then _ else _) _ _ s
  rw [if_neg (show ¬ ((some (Value.ref f) == some Value.none) = true) from Bool.false_ne_true)]
  refine wpAny_bind (unlessNone_fn I.kIn J D (wpAny_mono (own_call (vs := [.ref a, x]) F ⟨hr, rfl⟩ hb hx I (.cons rfl (.cons rx .nil)) hsp) (fun r s' z => ?_) fun _ _ e => e))
  obtain ⟨v, H', I', rv, b, rfl, z⟩ := z
  cases (show r = Value.bool b from rv)
  exact wpAny_truthy_bool (q b H' s' I' z)
theorem op_inOwn (F : FnOk X.prog X.w X.K X.mg X.base CX k f fd ps sp) (hr : Room k X.A) (hb : Binds X.K fd ps []) (hx : Passes CX X E) (D : Dun X.K C f "__contains__") : OpR X (compareOp .In) (rInOwn C sp E false) := by
  intro pins s σ H x y v u Q I rx ry h
  obtain ⟨a, dx, fs, rfl, ha, hsp⟩ := h
  cases (show u = Value.ref a from ry)
  show wpAny _ _ (contains (.ref a) v >>= fun b => pure (Value.bool b)) _ _ s
  exact wpAny_bind (contains_own F hr hb hx D I rx ha hsp fun b H' s' I' z => wpAny_pure ⟨.bl b, H', I', rfl, z⟩)
theorem op_notInOwn (F : FnOk X.prog X.w X.K X.mg X.base CX k f fd ps sp) (hr : Room k X.A) (hb : Binds X.K fd ps []) (hx : Passes CX X E) (D : Dun X.K C f "__contains__") : OpR X (compareOp .NotIn) (rInOwn C sp E true) := by
  intro pins s σ H x y v u Q I rx ry h
  obtain ⟨a, dx, fs, rfl, ha, hsp⟩ := h
  cases (show u = Value.ref a from ry)
  show wpAny _ _ (contains (.ref a) v >>= fun b => pure (Value.bool (!b))) _ _ s
  exact wpAny_bind (contains_own (Q := fun w G => ∃ b, w = .bl b ∧ Q (.bl (!b)) G) F hr hb hx D I rx ha (by
    have e : (fun (v : V) (G : Hp) => ∃ b : Bool, v = .bl b ∧ ∃ c, V.bl b = .bl c ∧ Q (.bl (!c)) G) = fun v G => ∃ b : Bool, v = .bl b ∧ Q (.bl (if true = true then !b else b)) G := by
      funext v G
      apply propext
      constructor
      · rintro ⟨b, e, c, e2, q⟩
        cases e2
        exact ⟨b, e, q⟩
      · rintro ⟨b, e, q⟩
        exact ⟨b, e, b, rfl, q⟩
    rw [e]
    exact hsp) fun b H' s' I' z => by
      obtain ⟨c, e, z⟩ := z
      cases e
      exact wpAny_pure ⟨.bl (!b), H', I', rfl, z⟩)
/-! ### len(o) -/
def rLenOwn (C : Addr) (sp : Sp) (E : XK) : List V → Hp → VK → Prop := fun xs H Q => ∃ a dx fs, xs = [.ref a] ∧ H a = some (.ins C dx fs) ∧ sp [.ref a] H (fun v G => ∃ n : Int, v = .int n ∧ 0 ≤ n ∧ n < 2 ^ 63 ∧ Q (.int n) G) E
theorem call_lenOwn (F : FnOk X.prog X.w X.K X.mg X.base CX k f fd ps sp) (hr : Room (k + 1) X.A) (hb : Binds X.K fd ps []) (hx : Passes CX X E) (D : Dun X.K C f "__len__") : CallR X (.builtin "len") (rLenOwn C sp E) := by
  intro pins s σ H xs us Q I rv h
  obtain ⟨a, dx, fs, rfl, ha, hsp⟩ := h
  obtain ⟨u, rfl, ru⟩ := rv.one
  cases (show u = Value.ref a from ru)
  obtain ⟨mA, J, _⟩ := ins_get I.hok ha
  obtain ⟨od, J, _⟩ := J.look
  obtain ⟨m, hF⟩ := I.fr
  refine PySem.W.len_K hF I.ok.mod.kin J D.at_ D.fn (wpAny_mono (own_call (vs := [.ref a]) F (Sub.in1 (⟨hr, rfl⟩ : Sub X (k + 1) X.A)) hb hx I (.cons rfl .nil) hsp) (fun r s' z => ?_) fun _ _ e => e)
  obtain ⟨v, H', I', rv', n, rfl, h0, h1, z⟩ := z
  obtain ⟨t, rfl⟩ := rv'
  exact ⟨⟨h0, h1⟩, .int n, H', I'.kept (t' := s'.toks + 1) (fun _ _ e => e), ⟨s'.toks, rfl⟩, z⟩
/-! ### o[i] -/
def rIxOwn (C : Addr) (sp : Sp) (E : XK) : R2 := fun x y H Q => ∃ a dx fs, x = .ref a ∧ H a = some (.ins C dx fs) ∧ sp [.ref a, y] H Q E
theorem pe_ixOwn {a b : Expr} {ta tb : TE} {pos : Pos} (F : FnOk X.prog X.w X.K X.mg X.base CX k f fd ps sp) (hr : Room (k + 1) X.A) (hb : Binds X.K fd ps []) (hx : Passes CX X E) (D : Dun X.K C f "__getitem__") (ea : PE X a ta) (eb : PE X b tb)
    (hsl : ∀ o i, subscripted b true o i = runValue (.builtin "lifetime.subscript" ⟨[o, i], []⟩) := by intro _ _; with_unfolding_all rfl) : PE X (.Subscript a b pos) (tOp (rIxOwn C sp E) ta tb) := by
  refine ⟨fun pins s σ H Q I h => ?_⟩
  refine Subscript_ (binT ea eb I h fun v u s2 x y H2 I2 rx ry q => ?_)
  obtain ⟨o, dx, fs, rfl, ha, hsp⟩ := q
  cases (show v = Value.ref o from rx)
  obtain ⟨mA, J, _⟩ := ins_get I2.hok ha
  obtain ⟨od, J, _⟩ := J.look
  obtain ⟨m, hF⟩ := I2.fr
  exact PySem.W.sub_K hF I2.ok.mod.kin J D.at_ D.fin D.fn (own_call (vs := [.ref o, y]) F (Sub.in1 (⟨hr, rfl⟩ : Sub X (k + 1) X.A)) hb hx I2 (.cons rfl (.cons ry .nil)) hsp) (hsl _ _)
/-! ### str(o) -/
def rStrOwn (C : Addr) (sp : Sp) (E : XK) : List V → Hp → VK → Prop := fun xs H Q => ∃ a dx fs, xs = [.ref a] ∧ H a = some (.ins C dx fs) ∧ sp [.ref a] H (fun v G => ∃ z : Str, v = .str z ∧ Q (.str z) G) E
theorem call_strOwn (F : FnOk X.prog X.w X.K X.mg X.base CX k f fd ps sp) (hr : Room (k + 2) X.A) (hb : Binds X.K fd ps []) (hx : Passes CX X E) (D : Dun X.K C f "__str__") : CallR X (.type "str") (rStrOwn C sp E) := by
  intro pins s σ H xs us Q I rv h
  obtain ⟨a, dx, fs, rfl, ha, hsp⟩ := h
  obtain ⟨u, rfl, ru⟩ := rv.one
  cases (show u = Value.ref a from ru)
  obtain ⟨mA, J, _⟩ := ins_get I.hok ha
  obtain ⟨od, J, _⟩ := J.look
  have sb : Sub X k X.A.in1.in1 := Sub.in1 (Sub.in1 (⟨hr, rfl⟩ : Sub X (k + 2) X.A))
  refine PySem.W.kso_call sb.room.units0 I.kIn J D.at_ D.fn (wpAny_mono (own_call (vs := [.ref a]) F sb hb hx I (.cons rfl .nil) hsp) (fun r s' z => ?_) fun _ _ e => e)
  obtain ⟨v, H', I', rv', y, rfl, z⟩ := z
  obtain ⟨t, rfl⟩ := rv'
  exact ⟨.str y, H', I', ⟨t, rfl⟩, z⟩
/-! ### o == x, o != x -/
def rEqOwn (C : Addr) (sp : Sp) (E : XK) (neg : Bool) (K : PySem.W.Frag) : R2 := fun x y H Q => ∃ a dx fs t, x = .ref a ∧ H a = some (.ins C dx fs) ∧ TyX K H y t ∧ PySem.W.notFirst K C t = true ∧ sp [.ref a, y] H (fun v G => ∃ b : Bool, v = .bl b ∧ Q (.bl (if neg = true then !b else b)) G) E
theorem op_eqOwn (F : FnOk X.prog X.w X.K X.mg X.base CX k f fd ps sp) (hr : Room k X.A) (hb : Binds X.K fd ps []) (hx : Passes CX X E) (D : Dun X.K C f "__eq__") : OpR X (compareOp .Eq) (rEqOwn C sp E false X.K) := by
  intro pins s σ H x y v u Q I rx ry h
  obtain ⟨a, dx, fs, t, rfl, ha, ty, nf, hsp⟩ := h
  cases (show v = Value.ref a from rx)
  obtain ⟨mA, J, _⟩ := ins_get I.hok ha
  obtain ⟨od, J, _⟩ := J.look
  obtain ⟨m, hF⟩ := I.fr
  obtain ⟨Pk, kx, hp, _⟩ := kit_of I ry ty
  refine PySem.W.cmp_K (op := .Eq) (tb := t) hr.units0 hF I.ok.mod.kin J (kx.ty _ _ I.kIn hp) nf D.at_ D.fn (wpAny_mono (own_call (vs := [.ref a, y]) F ⟨hr, rfl⟩ hb hx I (.cons rfl (.cons ry .nil)) hsp) (fun r s' z => ?_) fun _ _ e => e)
  obtain ⟨z, H', I', rv, b, rfl, q⟩ := z
  cases (show r = Value.bool b from rv)
  exact ⟨.bl b, H', I', rfl, q⟩
theorem ifBound_slot {M : Model} {A : Around} {s : Shared} {K : PySem.W.Frag} {x : Addr} {ox : Obj} {od : Option Obj} {name : Str} {id : String} {args : List Value} {Er : Value → Shared → Prop} {Q : Option Value → Shared → Prop} (kin : K.In s.heap) (J : PySem.W.InstAt s.heap x ox C od)
    (hs : PySem.W.findIn K (.ref C) name = some (some (.builtin id))) (hb : ∀ self, bindSpecial (.builtin id) self = pure (.builtin id, [self])) (h : wpAny M A (call (.builtin id) (.ref x :: args)) (fun v => Q (some v)) Er s) : wpAny M A (callSpecialIfBound? (.ref x) name args) Q Er s := by
  simp only [callSpecialIfBound?, bindSpecialIfBound?]
  refine wpAny_holding (wpAny_bind (wpAny_bind (wpAny_bind (J.type.here ((PySem.W.looks_findIn kin hs).here ?_)))))
  refine wpAny_bind (wpAny_askSetting (wpAny_ite ?_))
  have fin : wpAny M A (call (.builtin id) ([.ref x] ++ args) >>= fun v => pure (some v)) Q Er s := wpAny_bind (wpAny_mono h (fun v s' h' => wpAny_pure h') fun _ _ h' => h')
  simp only [hb]
  split
  · exact wpAny_bind (wpAny_pure (wpAny_pure (by exact fin)))
  · exact wpAny_tryCatch (wpAny_bind (wpAny_pure (wpAny_pure (by exact fin))))
/-- the class at C has object's own != -/
structure NeObj (K : PySem.W.Frag) (C : Addr) : Prop where
  at_ : PySem.W.findIn K (.ref C) "__ne__" = some (some (.builtin "object.__ne__"))
  obj : PySem.W.mroIn K C (.type "object") = some true
theorem ne_own {A : Around} {s : Shared} {K : PySem.W.Frag} {prog : Program} {w : World} {a : Addr} {ox : Obj} {od : Option Obj} {u tb : Value} {h₀ : Heap} {L : Addr} {m : Str → Option Value} {Er : Value → Shared → Prop} {Q : Value → Shared → Prop} (hu : A.units < cLine) (hu1 : A.in1.units < cLine) (hF : Fr h₀ L s.heap m) (X₀ : K.In h₀) (J : PySem.W.InstAt s.heap a ox C od)
    (hb : PySem.W.Looks (model prog w) s.heap (typeOf u) tb) (hn : PySem.W.notFirst K C tb = true) (N : NeObj K C) (D : Dun K C f "__eq__")
    (h : wpAny (model prog w) A.in1 (call (.ref f) [.ref a, u]) (fun r s' => ∃ b, r = .bool b ∧ Q (.bool (!b)) s') Er s) : wpAny (model prog w) A (richCompare .NotEq (.ref a) u) Q Er s := by
  have kin := X₀.keeps hF.keep
  have one : wpAny (model prog w) A (tryCompare (.ref a) "__ne__" u) (fun r s' => ∃ v, r = some v ∧ Q v s') Er s := by
    unfold tryCompare
    refine wpAny_bind (ifBound_slot kin J N.at_ PySem.F.cmp_object.ne.bind (wpAny_call (codeAny_call_builtin PySem.F.cmp_object.ne.plain PySem.F.cmpEntry_ne
      (PySem.W.check_slot (i := "object.__ne__") (owner := "object") (n := "__ne__") PySem.F.cmpKind_ne PySem.F.cmpSplit_ne (J.type.andThen (PySem.W.looks_mroIn kin N.obj)) (PySem.F.cmpArgs_ne _ _) ?_))))
    unfold Builtin.«object.__ne__»
    refine wpAny_bind (m := slotArgs "__ne__" 1 _) (wpAny_pure ?_)
    refine wpAny_bind (wpAny_cRoomFor hu1 ?_)
    refine wpAny_bind (m := callSpecialIfBound? (.ref a) (Str.ofString "__eq__") [u]) (PySem.W.ifBound_K kin J D.at_ D.fn (wpAny_mono h (fun r s' z => ?_) fun _ _ e => e))
    obtain ⟨b, rfl, q⟩ := z
    refine wpAny_bind (m := truthy (.bool b)) (wpAny_truthy_bool ?_)
    exact wpAny_pure (wpAny_pure ⟨_, rfl, q⟩)
  unfold richCompare
  simp only [oneThing_ref]
  refine wpAny_holding (wpAny_bind (wpAny_cRoomFor hu ?_))
  refine wpAny_bind (J.type.here (wpAny_bind (hb.here ?_)))
  split
  · rename_i q
    have e : PySem.W.subIn K tb (.ref C) = some false := by
      rcases Bool.or_eq_true_iff.mp hn with e | e
      · rw [beq_iff_eq.mp e] at q; simp at q
      · exact beq_iff_eq.mp e
    refine wpAny_bind ((PySem.W.looks_subIn kin e).here ?_)
    simp only [Bool.false_eq_true, if_false]
    refine wpAny_bind (wpAny_mono one (fun r s' z => ?_) fun _ _ e => e)
    obtain ⟨v, rfl, hq⟩ := z
    exact wpAny_pure hq
  · refine wpAny_bind (wpAny_pure ?_)
    simp only [Bool.false_eq_true, if_false]
    refine wpAny_bind (wpAny_mono one (fun r s' z => ?_) fun _ _ e => e)
    obtain ⟨v, rfl, hq⟩ := z
    exact wpAny_pure hq
theorem op_neOwn (F : FnOk X.prog X.w X.K X.mg X.base CX k f fd ps sp) (hr : Room (k + 1) X.A) (hb : Binds X.K fd ps []) (hx : Passes CX X E) (D : Dun X.K C f "__eq__") (N : NeObj X.K C) : OpR X (compareOp .NotEq) (rEqOwn C sp E true X.K) := by
  intro pins s σ H x y v u Q I rx ry h
  obtain ⟨a, dx, fs, t, rfl, ha, ty, nf, hsp⟩ := h
  cases (show v = Value.ref a from rx)
  obtain ⟨mA, J, _⟩ := ins_get I.hok ha
  obtain ⟨od, J, _⟩ := J.look
  obtain ⟨m, hF⟩ := I.fr
  obtain ⟨Pk, kx, hp, _⟩ := kit_of I ry ty
  have sb : Sub X k X.A.in1 := Sub.in1 (⟨hr, rfl⟩ : Sub X (k + 1) X.A)
  refine ne_own (tb := t) hr.units0 sb.room.units0 hF I.ok.mod.kin J (kx.ty _ _ I.kIn hp) nf N D (wpAny_mono (own_call (vs := [.ref a, y]) F sb hb hx I (.cons rfl (.cons ry .nil)) hsp) (fun r s' z => ?_) fun _ _ e => e)
  obtain ⟨z, H', I', rv, b, rfl, q⟩ := z
  cases (show r = Value.bool b from rv)
  exact ⟨b, rfl, .bl (!b), H', I', rfl, q⟩
end
/-! ### iter(t) of a tuple; for x in o -/
def itT (t : Addr) (i : Nat) : Obj := { cls := .type "tuple_iterator", data := .fields #[.ref t, .int i 0] }
def TitO (t it : Addr) : HO := .ext fun h => h.get? it = some (itT t 0)
theorem titO_ok {P : Program} {w : World} {H : Hp} {h : Heap} {t it : Addr} (e : h.get? it = some (itT t 0)) : ObjOk P w H h it (TitO t it) := ⟨e, ⟨_, e⟩, fun h1 h2 q k => k _ q⟩
theorem run_iterT {prog : Program} {w : World} {A : Around} {E : Value → Shared → Prop} {s : Shared} {t : Addr} {items : Array Value} {Q : Value → Shared → Prop} (hl : s.heap.IsTuple t items) (h : Q (.ref s.heap.objs.size) { s with heap := s.heap.push (itT t 0) }) : wpAny (model prog w) A (call (.builtin "iter") [.ref t]) Q E s := by
  refine Calls.call_function_entry (by decide +kernel) (by decide +kernel) PySem.W.kdk_entry_iter (PySem.W.kdk_args_iter _) ?_
  unfold Builtin.«iter»
  refine wpAny_bind (m := someArgs "iter" 1 2 _) (wpAny_of_eq (a := [Value.ref t]) (by first | rfl | kernel_rfl!) ?_)
  show wpAny _ _ (pyIter (.ref t) >>= _) _ _ _
  refine wpAny_bind (wpAny_pyIter_tuple hl ?_)
  exact wpAny_pure ⟨_, rfl, h⟩
def rIterT (K : PySem.W.Frag) (n : Nat) : List V → Hp → VK → Prop := fun xs H Q => ∃ (t : Addr) (zs : List V), xs = [.ref t] ∧ SqT K H t zs ∧ ∀ it, H it = none → n ≤ it → Q (.ref it) (upd H it (TitO t it))
theorem call_iterT {X : Cx} : CallR X (.builtin "iter") (rIterT X.K X.s_0.heap.objs.size) := by
  intro pins s σ H xs us Q I r h
  obtain ⟨t, zs, rfl, hq, q⟩ := h
  obtain ⟨u, rfl, ru⟩ := vals1 r
  cases (show u = Value.ref t from ru)
  obtain ⟨its, rv, pl, hz⟩ := I.tuple hq
  refine run_iterT pl ?_
  exact ⟨.ref s.heap.objs.size, _, I.laid (t' := s.toks) (fun b u e => Heap.get?_push_of_some _ e) (Nat.le_refl _) (titO_ok (Heap.get?_push_size _ rfl)), rfl, q _ (I.hok.fresh (Nat.le_refl _)) I.sz⟩
/-- as FnOk, the promise knows how many objects there are at the call -/
structure FnS (P : Program) (w : World) (K : PySem.W.Frag) (mg : Str → Option Value) (base : Heap) (CX : CXT) (k : Nat) (f : Addr) (fd : FuncData) (ps : List Str) (sp : Nat → Sp) : Prop where
  lenS : ∀ n us H Q E, sp n us H Q E → us.length = ps.length
  runS : ∀ (B : Around) (fs : List Env) (t : Shared) (H : Hp) (as : Args) (ws : List Value) (us : List V) (Q : VK) (E : XK), Room k B → Env0 P w K mg base B fs t H →
    BindsTo t fd as (ps.zip ws) → Vals us ws → sp t.heap.objs.size us H Q E → codeAny (model P w) B (.call (.ref f) as) (CR CX fs P w H t Q E) t
theorem fnS_ok {P : Program} {w : World} {K : PySem.W.Frag} {mg : Str → Option Value} {base : Heap} {CX : CXT} {x qual : Str} {st : Stmt} {f : Addr} {fd : FuncData} {N ps : List Str} {k : Nat} {sp : Nat → Sp} (F : Fun K x qual st f fd) (S : FnScope N ps (defScope st)) (hl : ∀ n us H Q E, sp n us H Q E → us.length = ps.length)
    (hb : ∀ (cd : Value) (B : Around) (fs : List Env) (t : Shared) (H : Hp) (us : List V) (Q : VK) (E : XK), Room k (B.deeper (envOfC qual (defScope st) t.heap.objs.size f cd)) → sp t.heap.objs.size us H Q E →
      ∃ r, PSs (cxOf CX P w K mg base N qual (defScope st) f cd B fs t H E).nox (defBody st) r ∧ r { nx := fun _ G => Q .non G, rt := Q } (start N us) H) : FnS P w K mg base CX (k + 1) f fd ps sp := by
  obtain ⟨oc, od, kV, doc, pm, an, cd, ct, osl, rfl, lk, hc⟩ := F.ex
  constructor
  · exact hl
  intro B fs t H as ws us Q E hr e0 hbd hv hq
  have e0b := e0.bs
  have inK : K.In t.heap := e0.mod.kin.keeps fun b o z => (e0b b o z).1
  have few := hl _ _ _ _ _ hq
  refine codeAny_call_function hr.depth (inK _ _ lk) rfl S.co S.gen rfl (PySem.W.codeRec_of inK hc) (hbd _ _ _ _ ?_)
  apply wpAny_newFunctionEnv_cells S.kind
  · rintro ⟨n, u⟩ hy
    cases S.par n (List.of_mem_zip hy).1 with
    | inl z => exact Or.inl z
    | inr z => exact Or.inr ⟨z, PySem.W.cellsFrom_some _ _ _ (Or.inl z)⟩
  intro env he t1 hx
  subst he
  constructor
  · exact Heap.NoLimit.keeps (e0.mod.nolimit.keeps fun b o z => (e0b b o z).1) hx.toInCall.keep
  apply codeAny_func
  obtain ⟨r, hpss, hrd⟩ := hb cd B fs t H us Q E (hr.deeper _) hq
  have J := inv_start (CX := CX) (E := E) S hr.hd e0 few hv hx
  apply wpAny_mono (hpss.nox.run [] t1 (start N us) H _ J hrd)
  · intro fl t2 h2
    cases fl with
    | next =>
      obtain ⟨σ2, G, J2, z⟩ := h2
      exact ⟨V.non, G, J2.os, J2.bare, J2.base, J2.hok, (rfl : Value.none = Value.none), z⟩
    | ret u =>
      obtain ⟨v, σ2, G, J2, rv, z⟩ := h2
      exact ⟨v, G, J2.os, J2.bare, J2.base, J2.hok, rv, z⟩
    | brk => exact (h2.elim fun _ h3 => h3.elim fun _ h4 => h4.2).elim
    | cont => exact (h2.elim fun _ h3 => h3.elim fun _ h4 => h4.2).elim
  · intro _ _ z
    exact z
section
variable {X : Cx} {CX : CXT} {k : Nat} {f : Addr} {fd : FuncData} {ps : List Str} {E : XK} {C : Addr}
theorem own_callS {sp : Nat → Sp} {A : Around} {pins : List (Addr × Obj)} {s : Shared} {σ : L2.St} {H : Hp} {vs : List V} {us : List Value} {Q : VK} (F : FnS X.prog X.w X.K X.mg X.base CX k f fd ps sp) (sb : Sub X k A) (hb : Binds X.K fd ps []) (hx : Passes CX X E)
    (I : Inv X pins σ H s) (rv : Vals vs us) (hsp : sp s.heap.objs.size vs H Q E) : wpAny (model X.prog X.w) A (call (.ref f) us) (EP X pins σ Q) X.xe s := by
  have e0 : Env0 X.prog X.w X.K X.mg X.base A X.stack s H := by
    have e := I.env0
    exact ⟨by rw [sb.fr]; exact e.frames, e.mod, e.bs, e.bsz, e.funs, e.frf, e.hok, e.bare⟩
  have hl := F.lenS _ _ _ _ _ hsp
  refine wpAny_call (codeAny_mono (F.runS A X.stack s H ⟨us, []⟩ us vs Q E sb.room e0 (by
    have := hb s us I.kIn (by rw [List.append_nil, ← rv.length]; exact hl)
    simpa using this) rv hsp) fun r s' hq => ?_)
  cases r with
  | error e => exact hx pins σ H s e s' I hq
  | ok fl =>
    cases fl with
    | ret w => exact I.after hq
    | next => exact False.elim hq
    | brk => exact False.elim hq
    | cont => exact False.elim hq
/-- __iter__ that hands back iter(..) of a tuple -/
def spIterT (K : PySem.W.Frag) (C : Addr) (G : Addr → Hp → Addr → List V → Prop) : Nat → Sp := fun n vs H Q _ => ∃ a t xs, vs = [.ref a] ∧ G a H t xs ∧ SqT K H t xs ∧ ∀ it, H it = none → n ≤ it → Q (.ref it) (upd H it (TitO t it))
def iOwn (K : PySem.W.Frag) (C : Addr) (G : Addr → Hp → Addr → List V → Prop) (te : TE) : TI := fun σ H R => te σ H fun x H1 => ∃ a dx fs t xs, x = .ref a ∧ H1 a = some (.ins C dx fs) ∧ G a H1 t xs ∧ SqT K H1 t xs ∧ R (Itt K t) H1
open ItX in
theorem pi_own {tg e : Expr} {te : TE} {G : Addr → Hp → Addr → List V → Prop} (he : PE X e te) (F : FnS X.prog X.w X.K X.mg X.base CX k f fd ps (spIterT X.K C G)) (hr : Room k X.A) (hb : Binds X.K fd ps []) (hx : Passes CX X (fun _ _ _ => False)) (D : Dun X.K C f "__iter__") : PI X tg e (iOwn X.K C G te) := by
  refine ⟨fun pins s σ H R I h => ?_⟩
  refine thn (he.run pins s σ H _ I h) fun u s1 ⟨v, H1, I1, r1, a, dx, fs, t, xs, ev, ha, hG, hS, q⟩ => ?_
  subst ev
  cases (show u = Value.ref a from r1)
  obtain ⟨mA, J, _⟩ := ins_get I1.hok ha
  obtain ⟨od, J, _⟩ := J.look
  obtain ⟨m, hF⟩ := I1.fr
  refine PySem.W.owit_iter hF I1.ok.mod.kin J D.at_ D.fn (wpAny_mono (own_callS (vs := [.ref a]) (Q := fun v G => ∃ it, v = .ref it ∧ H1 it = none ∧ s1.heap.objs.size ≤ it ∧ G = upd H1 it (TitO t it)) (E := fun _ _ _ => False) F ⟨hr, rfl⟩ hb hx I1 (.cons rfl .nil) ⟨a, t, xs, rfl, hG, hS, fun it n1 n2 => ⟨it, rfl, n1, n2, rfl⟩⟩) (fun r s' z => ?_) fun _ _ e => e)
  obtain ⟨v, H', I', rv, it, rfl, n1, n2, rfl⟩ := z
  cases (show r = Value.ref it from rv)
  have eo : s'.heap.get? it = some (itT t 0) := (I'.hok it _ upd_same).1
  have hT : s'.TypeIs (.ref it) "tuple_iterator" := ⟨_, eo, rfl⟩
  unfold PySem.W.OwitIt
  refine wpAny_specialOf (name := Str.ofString "__next__") hT slot_tupleiter_next.lookup ?_
  have hd : dropH (upd H1 it (TitO t it)) it = H1 := dropH_upd n1
  refine ⟨it, [it], _, _, dropH (upd H1 it (TitO t it)) it, rfl, inv_drop I' upd_same, turn_tuple t it, ⟨_, eo, rfl, rfl⟩, fun b hb' => ?_, ?_⟩
  · have e : b = it := by simpa using hb'
    rw [e]
    exact inv_fp I' upd_same (Nat.le_trans I1.sz n2)
  · rw [hd]
    exact q
end
end Gd
set_option Elab.async false
set_option linter.all false
set_option maxRecDepth 100000
set_option maxHeartbeats 4000000
/-! De: dicts compared, whatever the answer: values are data or dicts again. -/
namespace Gd
open PySem PySem.Spec PyProof.Rows L2
/-- the answer of two dicts' ==, e says what of the values under one key -/
def eqDs (ks ls : List (Key × V)) (e : Key → Bool) : Bool := ks.length == ls.length && ks.all fun p => (valV ls p.1).isSome && e p.1
/-- x == y answers b; dicts at most n deep -/
inductive Eq3 (K : PySem.W.Frag) (H : Hp) : Nat → V → V → Bool → Prop
  | data {n : Nat} {x y : V} {d e : PyData} : Dp K H x d → Dp K H y e → d.plain = true → e.plain = true → d.depth ≤ 64 → Eq3 K H n x y (PyData.eqv d e)
  | dict {n : Nat} {a b : Addr} {ks ls : List (Key × V)} {e : Key → Bool} : H a = some (.dK ks) → H b = some (.dK ls) → (∀ k v y, (k, v) ∈ ks → valV ls k = some y → Eq3 K H n v y (e k)) → (a = b → eqDs ks ls e = true) → Eq3 K H (n + 1) (.ref a) (.ref b) (eqDs ks ls e)
theorem kv_all {ls : List (Key × V)} {vb : List (Key × Value)} (rb : KV ls vb) (e : Key → Bool) {ks : List (Key × V)} {va : List (Key × Value)} (ra : KV ks va) : (va.all fun p => (valueAt vb p.1).isSome && e p.1) = ks.all fun p => (valV ls p.1).isSome && e p.1 := by
  unfold KV at ra
  induction ra with
  | nil => rfl
  | @cons p q ps qs h t ih =>
    rw [List.all_cons, List.all_cons, ih, h.1]
    have z := rb.val q.1
    congr 2
    cases h1 : valV ls q.1 <;> cases h2 : valueAt vb q.1 <;> rw [h1, h2] at z <;> first | rfl | exact (show False from z).elim
theorem kv_mem {ks : List (Key × V)} {va : List (Key × Value)} (ra : KV ks va) {k : Key} {v : Value} (h : (k, v) ∈ va) : ∃ x, (k, x) ∈ ks ∧ RelV x v := by
  unfold KV at ra
  induction ra with
  | nil => cases h
  | @cons p q ps qs h' t ih =>
    rcases List.mem_cons.mp h with e | h
    · obtain ⟨pk, px⟩ := p
      subst e
      have e1 : pk = k := h'.1
      subst e1
      exact ⟨px, List.mem_cons_self, h'.2⟩
    · obtain ⟨x, h1, h2⟩ := ih h
      exact ⟨x, List.mem_cons_of_mem _ h1, h2⟩
theorem relO_some {o : Option V} {y : Value} (h : RelO o (some y)) : ∃ x, o = some x ∧ RelV x y := by
  cases o with
  | none => exact (show False from h).elim
  | some x => exact ⟨x, rfl, h⟩
section
variable {X : Cx} {pins : List (Addr × Obj)} {σ : L2.St} {H : Hp} {s : Shared}
theorem Eq3.tree (I : Inv X pins σ H s) {n : Nat} {x y : V} {b : Bool} (h : Eq3 X.K H n x y b) : ∀ {v u : Value}, RelV x v → RelV y u → PySem.W.EqTree X.prog X.w s (n + 66) v u b := by
  induction h with
  | data hd he sd se dp =>
    intro v u rx ry
    obtain ⟨as, r1⟩ := Dp.reads I _ _ v hd rx
    obtain ⟨bs, r2⟩ := Dp.reads I _ _ u he ry
    exact .leaf fun A hu => SeqAt.eqAt_plain _ _ A s v u as bs r1 r2 sd se (Nat.lt_of_le_of_lt (Nat.add_le_add_left (Nat.le_trans (Nat.min_le_left _ _) dp) _) (by omega))
  | @dict n a b ks ls e ha hb hv hs ih =>
    intro v u rx ry
    cases (show v = Value.ref a from rx)
    cases (show u = Value.ref b from ry)
    by_cases q : a = b
    · rw [hs q, q]
      exact .same
    · obtain ⟨_, ya, va, ra, da⟩ := (show ObjOk X.prog X.w H s.heap a (.dK ks) from I.hok a _ ha)
      obtain ⟨_, yb, vb, rb, db⟩ := (show ObjOk X.prog X.w H s.heap b (.dK ls) from I.hok b _ hb)
      have t := PySem.W.EqTree.dicts (prog := X.prog) (w := X.w) (knd := mixKind X.prog X.w) (n := n + 66) (e := e) q ya yb da db fun k v' y' hm hy => by
        obtain ⟨x, hx, rx'⟩ := kv_mem ra hm
        have z := rb.val k
        rw [hy] at z
        obtain ⟨yv, hyv, ry'⟩ := relO_some z
        exact ih k x yv hx hyv rx' ry'
      rw [kv_all rb e ra, ← ra.length, ← rb.length] at t
      have e2 : n + 66 + 1 = n + 1 + 66 := by omega
      rw [e2] at t
      exact t
def rEq3 (K : PySem.W.Frag) : R2 := fun x y H Q => ∃ (n : Nat) (a b : Addr) (ks ls : List (Key × V)) (e : Key → Bool), n ≤ 60 ∧ x = .ref a ∧ y = .ref b ∧ H a = some (.dK ks) ∧ H b = some (.dK ls) ∧ (∀ k v y, (k, v) ∈ ks → valV ls k = some y → Eq3 K H n v y (e k)) ∧ Q (.bl (eqDs ks ls e)) H
theorem op_eq3 (hu : X.A.units + 200 < cLine) : OpR X (compareOp .Eq) (rEq3 X.K) := by
  intro pins s σ H x y v u Q I rx ry h
  obtain ⟨n, a, b, ks, ls, e, hn, rfl, rfl, ha, hb, hv, q⟩ := h
  cases (show v = Value.ref a from rx)
  cases (show u = Value.ref b from ry)
  obtain ⟨_, ya, va, ra, da⟩ := (show ObjOk X.prog X.w H s.heap a (.dK ks) from I.hok a _ ha)
  obtain ⟨_, yb, vb, rb, db⟩ := (show ObjOk X.prog X.w H s.heap b (.dK ls) from I.hok b _ hb)
  refine PySem.W.eq_dictsT (knd := mixKind X.prog X.w) (n := n + 66) (e := e) ya yb da db (fun k v' y' hm hy => ?_) (by omega) ?_
  · obtain ⟨x, hx, rx'⟩ := kv_mem ra hm
    have z := rb.val k
    rw [hy] at z
    obtain ⟨yv, hyv, ry'⟩ := relO_some z
    exact (hv k x yv hx hyv).tree I rx' ry'
  · rw [kv_all rb e ra, ← ra.length, ← rb.length]
    exact ⟨.bl _, H, I, rfl, q⟩
/-- d != {} -/
def rNe0 : R2 := fun x y H Q => ∃ (a b : Addr) (ks : List (Key × V)), x = .ref a ∧ y = .ref b ∧ H a = some (.dK ks) ∧ H b = some (.dK []) ∧ Q (.bl (!ks.isEmpty)) H
theorem op_ne0 (hu : X.A.units < cLine) : OpR X (compareOp .NotEq) rNe0 := by
  intro pins s σ H x y v u Q I rx ry h
  obtain ⟨a, b, ks, rfl, rfl, ha, hb, q⟩ := h
  cases (show v = Value.ref a from rx)
  cases (show u = Value.ref b from ry)
  obtain ⟨_, ya, va, ra, da⟩ := (show ObjOk X.prog X.w H s.heap a (.dK ks) from I.hok a _ ha)
  obtain ⟨_, yb, vb, rb, db⟩ := (show ObjOk X.prog X.w H s.heap b (.dK []) from I.hok b _ hb)
  cases rb
  refine PySem.W.keq_ne (knd := mixKind X.prog X.w) (r := true) ya yb da db hu (fun e => ?_) ?_
  · cases ra with
    | nil => exact .nil
    | cons _ _ => exact absurd e (by simp)
  · refine fin_bl I q ?_
    cases ra with
    | nil => rfl
    | cons _ _ => rfl
end
end Gd
set_option Elab.async false
set_option linter.all false
set_option maxRecDepth 100000
set_option maxHeartbeats 1000000
/-! Sm: how long small data is, as repr shows it. -/
namespace Gd
open PySem PySem.Spec PyProof.Rows L2
theorem tt_le' (ts : List Str) : (tupleText ts).length ≤ piled ts + 3 := by
  unfold tupleText
  rw [strLen_append, strLen_append]
  have e1 : ((("(" : String) : Str)).length = 1 := rfl
  have e3 : (((if ts.length == 1 then ",)" else ")" : String) : Str)).length ≤ 2 := by split <;> decide
  rw [e1]
  cases ts with
  | nil =>
    have e2 : (Str.join ", " []).length = 0 := rfl
    omega
  | cons t r =>
    have := join_length_add (t :: r) (by simp)
    omega
theorem tf_le : ∀ (ts : List Str) (k : Nat) (acc : Str), (textFrom k acc ts).length ≤ acc.length + piled ts
  | [], k, acc => by
    show acc.length ≤ acc.length + piled []
    omega
  | t :: r, k, acc => by
    have ih := tf_le r (k + 1) (acc ++ (if k > 0 then ", " else "" : String) ++ t)
    have e : (acc ++ (if k > 0 then ", " else "" : String) ++ t).length ≤ acc.length + 2 + t.length := by
      rw [strLen_append, strLen_append]
      have z : (((if k > 0 then ", " else "" : String) : Str)).length ≤ 2 := by split <;> decide
      omega
    rw [piled_cons]
    show (textFrom (k + 1) (acc ++ (if k > 0 then ", " else "" : String) ++ t) r).length ≤ _
    omega
theorem lt_le' (ts : List Str) : (listText ts).length ≤ piled ts + 3 := by
  unfold listText
  rw [strLen_append]
  have z := tf_le ts 0 "["
  have e1 : ((("[" : String) : Str)).length = 1 := rfl
  have e2 : ((("]" : String) : Str)).length = 1 := rfl
  omega
/-- data that repr shows in at most c signs, n deep -/
structure Sm (n c : Nat) (d : PyData) : Prop where
  sh : d.showable = true
  nd : d.hasDict = false
  dp : d.depth ≤ n
  ln : d.shown.length ≤ c
theorem Sm.mono {n m c e : Nat} {d : PyData} (h : Sm n c d) (h1 : n ≤ m) (h2 : c ≤ e) : Sm m e d := ⟨h.sh, h.nd, Nat.le_trans h.dp h1, Nat.le_trans h.ln h2⟩
theorem sm_all {n c : Nat} : ∀ {ds : List PyData}, (∀ d ∈ ds, Sm n c d) → PyData.showableAll ds = true ∧ PyData.hasDictAll ds = false ∧ PyData.depthAll ds ≤ n ∧ piled (PyData.shownAll ds) ≤ ds.length * (c + 2)
  | [], _ => ⟨rfl, rfl, Nat.zero_le _, by show piled [] ≤ _; rw [piled_nil]; exact Nat.zero_le _⟩
  | d :: ds, h => by
    obtain ⟨h1, h2, h3, h4⟩ := sm_all fun e he => h e (List.mem_cons_of_mem _ he)
    have s := h d List.mem_cons_self
    refine ⟨?_, ?_, ?_, ?_⟩
    · rw [PyData.showableAll, s.sh, h1]; rfl
    · rw [PyData.hasDictAll, s.nd, h2]; rfl
    · rw [PyData.depthAll]
      exact Nat.max_le.mpr ⟨s.dp, h3⟩
    · rw [PyData.shownAll, piled_cons, List.length_cons, Nat.add_mul]
      have := s.ln
      omega
theorem sm_tup {n c : Nat} {ds : List PyData} (h : ∀ d ∈ ds, Sm n c d) : Sm (n + 1) (ds.length * (c + 2) + 3) (.tuple ds) := by
  obtain ⟨h1, h2, h3, h4⟩ := sm_all h
  refine ⟨by simp only [PyData.showable, h1], by simp only [PyData.hasDict, h2], by simp only [PyData.depth]; omega, ?_⟩
  simp only [PyData.shown]
  exact Nat.le_trans (tt_le' _) (by omega)
theorem sm_lst {n c : Nat} {ds : List PyData} (h : ∀ d ∈ ds, Sm n c d) : Sm (n + 1) (ds.length * (c + 2) + 3) (.list ds) := by
  obtain ⟨h1, h2, h3, h4⟩ := sm_all h
  refine ⟨by simp only [PyData.showable, h1], by simp only [PyData.hasDict, h2], by simp only [PyData.depth]; omega, ?_⟩
  simp only [PyData.shown]
  exact Nat.le_trans (lt_le' _) (by omega)
theorem sm_int {i : Int} (h0 : 0 ≤ i) (h9 : i ≤ 9) : Sm 0 1 (.int i) := by
  have : i = 0 ∨ i = 1 ∨ i = 2 ∨ i = 3 ∨ i = 4 ∨ i = 5 ∨ i = 6 ∨ i = 7 ∨ i = 8 ∨ i = 9 := by omega
  rcases this with rfl | rfl | rfl | rfl | rfl | rfl | rfl | rfl | rfl | rfl <;> exact ⟨by decide +kernel, rfl, by decide +kernel, by decide +kernel⟩
theorem sm_bool (b : Bool) : Sm 0 5 (.bool b) := by cases b <;> exact ⟨rfl, rfl, by decide +kernel, by decide +kernel⟩
theorem sm_str {x : Str} (h : ∀ c ∈ x.cps.toList, c < 16 ^ 8) (l : x.length ≤ 9) : Sm 0 200 (.str x) := by
  refine ⟨rfl, rfl, by simp [PyData.depth], ?_⟩
  show (reprText x).length ≤ 200
  have z := StrLaws.reprText_len x h
  omega
theorem Sm.r1 {n c : Nat} {d : PyData} (h : Sm n c d) (hn : n < 60) : d.depth < 60 := Nat.lt_of_le_of_lt h.dp hn
theorem Sm.r2 {n c : Nat} {d : PyData} (h : Sm n c d) (hc : c ≤ 16777216) : d.shown.length ≤ sizeLine := Nat.le_trans h.ln (by show c ≤ 2 ^ 24; exact hc)
/-- what repr asks -/
theorem Sm.repr {K : PySem.W.Frag} {n c : Nat} {d : PyData} {a : Addr} {H : Hp} {Q : VK} (h : Sm n c d) (hn : n < 60) (hc : c ≤ 16777216) (r : Dp K H (.ref a) d) (q : Q (.str d.shown) H) : rRepr K [.ref a] H Q :=
  ⟨a, d, rfl, r, h.sh, h.nd, Nat.lt_of_le_of_lt h.dp hn, Nat.le_trans h.ln (by show c ≤ 2 ^ 24; exact hc), q⟩
end Gd
set_option Elab.async false
set_option linter.all false
set_option maxRecDepth 100000
set_option maxHeartbeats 1000000
/-! Np: == and != of data without dicts, whatever its texts are. -/
namespace Gd
open PySem PySem.Spec PyProof.Rows L2
def rEqP (neg : Bool) (K : PySem.W.Frag) : R2 := fun x y H Q => ∃ d e, Dp K H x d ∧ Dp K H y e ∧ d.plain = true ∧ e.plain = true ∧ d.depth ≤ 64 ∧ Q (.bl (if neg = true then !PyData.eqv d e else PyData.eqv d e)) H
theorem op_eqP {X : Cx} (hu : X.A.units + 64 < cLine) : OpR X (compareOp .Eq) (rEqP false X.K) := by
  intro pins s σ H x y v u Q I rx ry h
  obtain ⟨d, e, hd, he, sd, se, dp, q⟩ := h
  obtain ⟨as, r1⟩ := Dp.reads I d x v hd rx
  obtain ⟨bs, r2⟩ := Dp.reads I e y u he ry
  exact SeqAt.eq_plain r1 r2 sd se (Nat.lt_of_le_of_lt (Nat.add_le_add_left (Nat.le_trans (Nat.min_le_left _ _) dp) _) hu) ⟨.bl _, H, I, rfl, q⟩
theorem op_neP {X : Cx} (hu : X.A.units + 64 < cLine) : OpR X (compareOp .NotEq) (rEqP true X.K) := by
  intro pins s σ H x y v u Q I rx ry h
  obtain ⟨d, e, hd, he, sd, se, dp, q⟩ := h
  obtain ⟨as, r1⟩ := Dp.reads I d x v hd rx
  obtain ⟨bs, r2⟩ := Dp.reads I e y u he ry
  exact SeqAt.ne_plain r1 r2 sd se (Nat.lt_of_le_of_lt (Nat.add_le_add_left (Nat.le_trans (Nat.min_le_left _ _) dp) _) hu) ⟨.bl _, H, I, rfl, q⟩
theorem dp_strs : ∀ {K : PySem.W.Frag} {H : Hp} (ns : List Str), DpAll K H (ns.map V.str) (ns.map PyData.str)
  | _, _, [] => .nil
  | _, _, x :: ns => .cons (.str x) (dp_strs ns)
theorem plain_strs : ∀ ns : List Str, PyData.plainAll (ns.map PyData.str) = true
  | [] => rfl
  | x :: ns => by rw [List.map_cons, PyData.plainAll, plain_strs ns]; rfl
theorem depth_strs : ∀ ns : List Str, PyData.depthAll (ns.map PyData.str) = 0
  | [] => by simp [PyData.depthAll]
  | x :: ns => by simp [PyData.depthAll, PyData.depth, depth_strs ns]
theorem js_strs {K : PySem.W.Frag} {H : Hp} : ∀ {ns : List Str}, (∀ x ∈ ns, x.length ≤ 1000) → JsAll K H (ns.map V.str) (ns.map Jv.str)
  | [], _ => .nil
  | x :: ns, h => .cons (.str x (h x List.mem_cons_self)) (js_strs fun y hy => h y (List.mem_cons_of_mem _ hy))
end Gd
set_option Elab.async false
set_option linter.all false
set_option maxRecDepth 100000
set_option maxHeartbeats 1000000
/-! Od: < of data: ints, texts, tuples of such, nested. -/
namespace Gd
open PySem PySem.Spec PyProof.Rows L2 PySem.SeqAt
mutual
def ltD : PyData → PyData → Bool
  | .int a, .int b => decide (a < b)
  | .str a, .str b => decide (a.cps.toList < b.cps.toList)
  | .tuple xs, .tuple ys => ltDs xs ys
  | _, _ => false
def ltDs : List PyData → List PyData → Bool
  | x :: xs, y :: ys => if PyData.eqv x y = true then ltDs xs ys else ltD x y
  | [], _ :: _ => true
  | _, _ => false
end
mutual
/-- such as can be compared -/
def okD : PyData → PyData → Bool
  | .int _, .int _ => true
  | .str _, .str _ => true
  | .tuple xs, .tuple ys => okDs xs ys
  | _, _ => false
def okDs : List PyData → List PyData → Bool
  | x :: xs, y :: ys => okD x y && okDs xs ys
  | _, _ => true
end
theorem ra_get {h : Heap} : ∀ {us : List Value} {ds : List PyData} {as : List Addr}, ReadsAll h us ds as → us.length = ds.length ∧ ∀ (j : Nat) (u : Value) (d : PyData), us[j]? = some u → ds[j]? = some d → ∃ bs, Reads h u d bs
  | _, _, _, .nil => ⟨rfl, fun j u d e => by simp at e⟩
  | _, _, _, .cons (v := v) (vs := vs) (d := d) (ds := ds) (as := as) r rs => by
    obtain ⟨l, g⟩ := ra_get rs
    refine ⟨by rw [List.length_cons, List.length_cons, l], fun j u d' e1 e2 => ?_⟩
    cases j with
    | zero => cases e1; cases e2; exact ⟨_, r⟩
    | succ j => exact g j u d' (by simpa using e1) (by simpa using e2)
theorem firstLt_map {e r : Nat → Bool} {fin : Bool} : ∀ l : List Nat, firstLt e r fin (l.map Nat.succ) = firstLt (fun j => e (j + 1)) (fun j => r (j + 1)) fin l
  | [] => rfl
  | j :: l => by
    rw [List.map_cons]
    show (if e (j + 1) = true then firstLt e r fin (l.map Nat.succ) else r (j + 1)) = if e (j + 1) = true then firstLt (fun j => e (j + 1)) (fun j => r (j + 1)) fin l else r (j + 1)
    rw [firstLt_map l]
def eAt (ds es : List PyData) (j : Nat) : Bool := PyData.eqv (ds.getD j .none) (es.getD j .none)
def rAt (ds es : List PyData) (j : Nat) : Bool := ltD (ds.getD j .none) (es.getD j .none)
theorem first_lt : ∀ ds es : List PyData, firstLt (eAt ds es) (rAt ds es) (decide (ds.length < es.length)) (List.range (min ds.length es.length)) = ltDs ds es
  | [], [] => rfl
  | [], _ :: _ => by
    rw [show min ([] : List PyData).length (_ :: _ : List PyData).length = 0 by simp]
    show decide (0 < _ + 1) = ltDs [] (_ :: _)
    rw [ltDs]
    exact decide_eq_true (Nat.succ_pos _)
  | _ :: _, [] => by
    rw [show min (_ :: _ : List PyData).length ([] : List PyData).length = 0 by simp]
    show decide (_ + 1 < 0) = ltDs (_ :: _) []
    rw [ltDs]
    · exact decide_eq_false (Nat.not_lt_zero _)
    · simp
    · simp
  | d :: ds, e :: es => by
    rw [List.length_cons, List.length_cons, Nat.succ_min_succ, List.range_succ_eq_map]
    show (if eAt (d :: ds) (e :: es) 0 = true then firstLt (eAt (d :: ds) (e :: es)) (rAt (d :: ds) (e :: es)) (decide (ds.length + 1 < es.length + 1)) ((List.range (min ds.length es.length)).map Nat.succ) else rAt (d :: ds) (e :: es) 0) = ltDs (d :: ds) (e :: es)
    rw [firstLt_map, ltDs]
    have h1 : decide (ds.length + 1 < es.length + 1) = decide (ds.length < es.length) := decide_eq_decide.mpr (by omega)
    rw [h1]
    show (if PyData.eqv d e = true then firstLt (eAt ds es) (rAt ds es) (decide (ds.length < es.length)) (List.range (min ds.length es.length)) else ltD d e) = _
    rw [first_lt ds es]
theorem rcLt_int {A : Around} {s : Shared} (a b : Int) (t u : Tok) : RcLt A s (.int a t) (.int b u) (decide (a < b)) := fun _ _ _ _ h => PyProof.Rows.lt_int h
theorem rcLt_str {A : Around} {s : Shared} (a b : Str) (t u : Tok) : RcLt A s (.str a t) (.str b u) (decide (a.cps.toList < b.cps.toList)) := fun _ _ _ _ h => PyProof.Rows.lt_str h
theorem depth_mem : ∀ {ds : List PyData} {d : PyData}, d ∈ ds → d.depth ≤ PyData.depthAll ds
  | e :: ds, d, h => by
    rw [PyData.depthAll]
    rcases List.mem_cons.mp h with rfl | h
    · exact Nat.le_max_left _ _
    · exact Nat.le_trans (depth_mem h) (Nat.le_max_right _ _)
theorem plain_mem : ∀ {ds : List PyData} {d : PyData}, PyData.plainAll ds = true → d ∈ ds → d.plain = true
  | e :: ds, d, p, h => by
    rw [PyData.plainAll, Bool.and_eq_true] at p
    rcases List.mem_cons.mp h with rfl | h
    · exact p.1
    · exact plain_mem p.2 h
mutual
theorem rcD : ∀ (d e : PyData) (A : Around) (s : Shared) (u v : Value) (as bs : List Addr), Reads s.heap u d as → Reads s.heap v e bs → okD d e = true → d.plain = true → e.plain = true → A.units + d.depth < cLine → RcLt A s u v (ltD d e)
  | .int a, e, A, s, u, v, as, bs, r1, r2, ok, p1, p2, hu => by
    cases e <;> first | (simp [okD] at ok; done) | skip
    cases r1
    cases r2
    rw [ltD]
    exact rcLt_int _ _ _ _
  | .str a, e, A, s, u, v, as, bs, r1, r2, ok, p1, p2, hu => by
    cases e <;> first | (simp [okD] at ok; done) | skip
    cases r1
    cases r2
    rw [ltD]
    exact rcLt_str _ _ _ _
  | .tuple ds, e, A, s, u, v, as, bs, r1, r2, ok, p1, p2, hu => by
    cases e <;> first | (simp [okD] at ok; done) | skip
    rename_i es
    rw [okD] at ok
    rw [PyData.plain] at p1 p2
    rw [ltD]
    cases r1 with
    | tuple ho hc hd hr =>
      cases r2 with
      | tuple ho2 hc2 hd2 hr2 =>
        rename_i a1 o1 us n1 a2 o2 ws n2
        obtain ⟨l1, g1⟩ := ra_get hr
        obtain ⟨l2, g2⟩ := ra_get hr2
        have l1 : us.size = ds.length := by rw [← l1, Array.length_toList]
        have l2 : ws.size = es.length := by rw [← l2, Array.length_toList]
        have hd1 : PyData.depth (.tuple ds) = PyData.depthAll ds + 1 := by simp only [PyData.depth]
        rw [← first_lt ds es, ← l1, ← l2]
        refine RcLt.tuples ⟨_, ho, hc, _, hd⟩ ⟨_, ho2, hc2, _, hd2⟩ (by omega) (fun j h1 h2 => ?_) (fun j h1 h2 _ => ?_)
        · have j1 : ds[j]? = some (ds.getD j .none) := by
            rw [List.getD_eq_getElem?_getD, List.getElem?_eq_getElem (by omega)]
            rfl
          have j2 : es[j]? = some (es.getD j .none) := by
            rw [List.getD_eq_getElem?_getD, List.getElem?_eq_getElem (by omega)]
            rfl
          obtain ⟨as', q1⟩ := g1 j us[j] _ (by rw [Array.getElem?_toList, Array.getElem?_eq_getElem h1]) j1
          obtain ⟨bs', q2⟩ := g2 j ws[j] _ (by rw [Array.getElem?_toList, Array.getElem?_eq_getElem h2]) j2
          have dj := depth_mem (List.mem_of_getElem? j1)
          exact SeqAt.eqAt_plain _ _ A.in1 s _ _ _ _ q1 q2 (plain_mem p1 (List.mem_of_getElem? j1)) (plain_mem p2 (List.mem_of_getElem? j2)) (by
            show A.units + 1 + _ < cLine
            omega)
        · exact rcDs ds es A.in1 s us.toList ws.toList as bs hr hr2 ok p1 p2 (by
            show A.units + 1 + _ < cLine
            omega) j us[j] ws[j] (by rw [Array.getElem?_toList, Array.getElem?_eq_getElem h1]) (by rw [Array.getElem?_toList, Array.getElem?_eq_getElem h2])
  | .none, e, A, s, u, v, as, bs, r1, r2, ok, p1, p2, hu => by cases e <;> simp [okD] at ok
  | .bool _, e, A, s, u, v, as, bs, r1, r2, ok, p1, p2, hu => by cases e <;> simp [okD] at ok
  | .list _, e, A, s, u, v, as, bs, r1, r2, ok, p1, p2, hu => by cases e <;> simp [okD] at ok
  | .dict _, e, A, s, u, v, as, bs, r1, r2, ok, p1, p2, hu => by cases e <;> simp [okD] at ok
theorem rcDs : ∀ (ds es : List PyData) (A : Around) (s : Shared) (us ws : List Value) (as bs : List Addr), ReadsAll s.heap us ds as → ReadsAll s.heap ws es bs → okDs ds es = true → PyData.plainAll ds = true → PyData.plainAll es = true → A.units + PyData.depthAll ds < cLine → ∀ (j : Nat) (u w : Value), us[j]? = some u → ws[j]? = some w → RcLt A s u w (rAt ds es j)
  | [], es, A, s, us, ws, as, bs, r1, r2, ok, p1, p2, hu, j, u, w, e1, e2 => by
    cases r1
    simp at e1
  | d :: ds, [], A, s, us, ws, as, bs, r1, r2, ok, p1, p2, hu, j, u, w, e1, e2 => by
    cases r2
    simp at e2
  | d :: ds, e :: es, A, s, us, ws, as, bs, r1, r2, ok, p1, p2, hu, j, u, w, e1, e2 => by
    rw [okDs, Bool.and_eq_true] at ok
    rw [PyData.plainAll, Bool.and_eq_true] at p1 p2
    rw [PyData.depthAll] at hu
    cases r1 with
    | cons r1 rs1 =>
      cases r2 with
      | cons r2 rs2 =>
        cases j with
        | zero =>
          cases e1
          cases e2
          exact rcD d e A s _ _ _ _ r1 r2 ok.1 p1.1 p2.1 (by have := Nat.le_max_left d.depth (PyData.depthAll ds); omega)
        | succ j => exact rcDs ds es A s _ _ _ _ rs1 rs2 ok.2 p1.2 p2.2 (by have := Nat.le_max_right d.depth (PyData.depthAll ds); omega) j u w (by simpa using e1) (by simpa using e2)
end
def rLtD (K : PySem.W.Frag) : R2 := fun x y H Q => ∃ d e, Dp K H x d ∧ Dp K H y e ∧ okD d e = true ∧ d.plain = true ∧ e.plain = true ∧ d.depth ≤ 60 ∧ Q (.bl (ltD d e)) H
theorem op_ltD {X : Cx} (hu : X.A.units + 64 < cLine) : OpR X (compareOp .Lt) (rLtD X.K) := by
  intro pins s σ H x y v u Q I rx ry h
  obtain ⟨d, e, hd, he, ok, p1, p2, dp, q⟩ := h
  obtain ⟨as, r1⟩ := Dp.reads I d x v hd rx
  obtain ⟨bs, r2⟩ := Dp.reads I e y u he ry
  exact rcD d e X.A s v u as bs r1 r2 ok p1 p2 (by omega) X.prog X.w X.xe _ ⟨.bl _, H, I, rfl, q⟩
end Gd
set_option Elab.async false
set_option linter.all false
set_option maxRecDepth 100000
set_option maxHeartbeats 2000000
/-! Os: sorted(..) of tuples of data: ints, texts, tuples of such, nested. -/
namespace Gd
open PySem PySem.Spec PyProof.Rows L2 PySem.SeqAt SrtO
mutual
/-- ints, texts and tuples alone -/
def tOnly : PyData → Bool
  | .int _ => true
  | .str _ => true
  | .tuple ds => tOnlys ds
  | _ => false
def tOnlys : List PyData → Bool
  | [] => true
  | d :: ds => tOnly d && tOnlys ds
end
mutual
theorem tOnly_plain : ∀ d : PyData, tOnly d = true → d.plain = true
  | .int _, _ => rfl
  | .str _, _ => rfl
  | .tuple ds, h => by
    rw [tOnly] at h
    rw [PyData.plain]
    exact tOnlys_plain ds h
  | .none, h => by simp [tOnly] at h
  | .bool _, h => by simp [tOnly] at h
  | .list _, h => by simp [tOnly] at h
  | .dict _, h => by simp [tOnly] at h
theorem tOnlys_plain : ∀ ds : List PyData, tOnlys ds = true → PyData.plainAll ds = true
  | [], _ => rfl
  | d :: ds, h => by
    rw [tOnlys, Bool.and_eq_true] at h
    rw [PyData.plainAll, tOnly_plain d h.1, tOnlys_plain ds h.2]
    rfl
end
mutual
theorem reads_but {h h' : Heap} {a : Addr} (hk : ∀ b o, b ≠ a → h.get? b = some o → h'.get? b = some o) (ha : ∀ o, h.get? a = some o → o.cls ≠ .type "tuple") : ∀ (d : PyData) (v : Value) (as : List Addr), tOnly d = true → Reads h v d as → Reads h' v d as
  | .int _, v, as, _, r => by
    cases r
    exact Reads.int _ _
  | .str _, v, as, _, r => by
    cases r
    exact Reads.str _ _
  | .tuple ds, v, as, t, r => by
    rw [tOnly] at t
    cases r with
    | tuple ho hc hd hr =>
      exact Reads.tuple (hk _ _ (fun e => by subst e; exact ha _ ho hc) ho) hc hd (readsAll_but hk ha ds _ _ t hr)
  | .none, _, _, t, _ => by simp [tOnly] at t
  | .bool _, _, _, t, _ => by simp [tOnly] at t
  | .list _, _, _, t, _ => by simp [tOnly] at t
  | .dict _, _, _, t, _ => by simp [tOnly] at t
theorem readsAll_but {h h' : Heap} {a : Addr} (hk : ∀ b o, b ≠ a → h.get? b = some o → h'.get? b = some o) (ha : ∀ o, h.get? a = some o → o.cls ≠ .type "tuple") : ∀ (ds : List PyData) (vs : List Value) (as : List Addr), tOnlys ds = true → ReadsAll h vs ds as → ReadsAll h' vs ds as
  | [], vs, as, _, r => by
    cases r
    exact ReadsAll.nil
  | d :: ds, vs, as, t, r => by
    rw [tOnlys, Bool.and_eq_true] at t
    cases r with
    | cons r rs => exact ReadsAll.cons (reads_but hk ha d _ _ t.1 r) (readsAll_but hk ha ds _ _ t.2 rs)
end
/-- what begins with an int, or with a text, for all alike -/
def headK (t : Bool) : PyData → Bool
  | .tuple (.int _ :: _) => t
  | .tuple (.str _ :: _) => !t
  | _ => false
section
variable {prog : Program} {w : World} {A : Around} {s : Shared} {E : Value → Shared → Prop}
theorem oneLt_strs {Q : Bool → Shared → Prop} (c : Bool) {p q : Str} {t u : Tok} (h : Q (decide (p.cps.toList < q.cps.toList)) s) : wpAny (model prog w) A (oneLt' c (.str p t) (.str q u)) Q E s := by
  cases c with
  | true => exact oneLt_str h
  | false => exact PySem.W.kat_one _ _ (PyProof.Rows.lt_str (Q := PySem.W.BoolBack Q) h)
theorem lexD_rest {b fin : Bool} {Q : Bool → Shared → Prop} : ∀ (ds es : List PyData) (us ws : List Value) (i : Nat) (as bs : List Addr), ReadsAll s.heap us ds as → ReadsAll s.heap ws es bs → okDs ds es = true → PyData.plainAll ds = true → PyData.plainAll es = true → A.units + 1 + PyData.depthAll ds < cLine → 0 < i → fin = decide (ds.length < es.length) → Q (ltDs ds es) s → PySem.W.KatLex prog w A b fin Q (us.zip ws) i s
  | [], es, us, ws, i, as, bs, r1, r2, ok, p1, p2, hu, hi, e, q => by
    cases r1
    have z : fin = ltDs [] es := by
      rw [e]
      cases es with
      | nil => rfl
      | cons _ _ =>
        rw [ltDs]
        exact decide_eq_true (Nat.succ_pos _)
    subst z
    exact PySem.W.kat_nil q
  | d :: ds, [], us, ws, i, as, bs, r1, r2, ok, p1, p2, hu, hi, e, q => by
    cases r1
    cases r2
    have z : fin = ltDs (d :: ds) [] := by
      rw [e, ltDs]
      · exact decide_eq_false (Nat.not_lt_zero _)
      · simp
      · simp
    subst z
    exact PySem.W.kat_nil q
  | d :: ds, x :: es, us, ws, i, as, bs, r1, r2, ok, p1, p2, hu, hi, e, q => by
    rw [okDs, Bool.and_eq_true] at ok
    rw [PyData.plainAll, Bool.and_eq_true] at p1 p2
    rw [PyData.depthAll] at hu
    rw [ltDs] at q
    have m1 := Nat.le_max_left d.depth (PyData.depthAll ds)
    have m2 := Nat.le_max_right d.depth (PyData.depthAll ds)
    cases r1 with
    | cons r1 rs1 =>
      cases r2 with
      | cons r2 rs2 =>
        rw [List.zip_cons_cons]
        refine PySem.W.kat_cons (SeqAt.eqAt_plain _ _ A s _ _ _ _ r1 r2 p1.1 p2.1 (by omega) prog w _ _ ?_)
        refine PySem.W.kat_go (fun e1 => ?_) (fun e1 => ?_)
        · rw [if_pos e1] at q
          exact PySem.W.kat_yes (lexD_rest ds es _ _ (i + 1) _ _ rs1 rs2 ok.2 p1.2 p2.2 (by omega) (Nat.succ_pos _) (by
            rw [e]
            exact decide_eq_decide.mpr (by simp)) q)
        · rw [if_neg (by rw [e1]; exact Bool.false_ne_true)] at q
          have ni : (b && i == 0) = false := by
            have : (i == 0) = false := by simp; omega
            rw [this, Bool.and_false]
          refine PySem.W.kat_no ?_
          rw [ni]
          exact PySem.W.kat_one _ _ (rcD d x A s _ _ _ _ r1 r2 ok.1 p1.1 p2.1 (by omega) prog w _ _ q)
/-- v is a tuple of such data -/
structure IsDt (h : Heap) (t : Bool) (v : Value) (d : PyData) : Prop where
  rd : ∃ as, Reads h v d as
  on : tOnly d = true
  hd : headK t d = true
theorem IsDt.tup {h : Heap} {t : Bool} {v : Value} {d : PyData} (x : IsDt h t v d) : ∃ (a : Addr) (o : Obj) (its : Array Value) (n : Nat) (ds : List PyData) (as : List Addr) (f : PyData) (u : Value), v = .ref a ∧ d = .tuple (f :: ds) ∧ h.get? a = some o ∧ o.cls = .type "tuple" ∧ o.data = .seq its n ∧ ReadsAll h its.toList (f :: ds) as ∧ its[0]? = some u ∧ ((t = true ∧ ∃ i k, f = .int i ∧ u = .int i k) ∨ (t = false ∧ ∃ x k, f = .str x ∧ u = .str x k)) := by
  obtain ⟨⟨as, r⟩, _, hd⟩ := x
  cases d with
  | tuple ds =>
    cases r with
    | tuple ho hc hd' hr =>
      rename_i a o its n
      cases ds with
      | nil => simp [headK] at hd
      | cons f ds =>
        obtain ⟨l, g⟩ := ra_get hr
        cases hi : its[0]? with
        | none =>
          have : its.size = 0 := by
            rw [Array.getElem?_eq_none_iff] at hi
            omega
          rw [Array.length_toList, this] at l
          cases l
        | some u =>
          obtain ⟨bs, ru⟩ := g 0 u f (by rw [Array.getElem?_toList]; exact hi) rfl
          refine ⟨a, o, its, n, ds, _, f, u, rfl, rfl, ho, hc, hd', hr, hi, ?_⟩
          cases f with
          | int i => cases ru; exact .inl ⟨by simpa [headK] using hd, _, _, rfl, rfl⟩
          | str x => cases ru; exact .inr ⟨by simpa [headK] using hd, _, _, rfl, rfl⟩
          | _ => simp [headK] at hd
  | _ => simp [headK] at hd
theorem dt_cmp {vs : List Value} {k : Value → PyData} {t : Bool} (hu : A.units + 64 < cLine) (hp : ∀ v ∈ vs, IsDt s.heap t v (k v)) (dp : ∀ v ∈ vs, (k v).depth ≤ 60) (ok : ∀ v ∈ vs, ∀ u ∈ vs, okD (k v) (k u) = true) : Cmp prog w A s (tuples' true) (fun p => p.1 ∈ vs) (lt2 fun v u => ltD (k v) (k u)) := by
  intro p q hm hm'
  show wpAny (model prog w) A (keyLt' (tuples' true) p.1 q.1) (fun r s' => s' = s ∧ r = ltD (k p.1) (k q.1)) (fun _ _ => False) s
  have h1 := hp _ hm
  have h2 := hp _ hm'
  have o1 := h1.on
  have o2 := h2.on
  have oo := ok _ hm _ hm'
  have d1 := dp _ hm
  generalize k p.1 = d at h1 o1 oo d1 ⊢
  generalize k q.1 = e at h2 o2 oo ⊢
  obtain ⟨a, o, its, n, ds, as, f, u, e1, rfl, ho, hc, hd, hr, hi, hf⟩ := h1.tup
  obtain ⟨a', o', its', n', es, bs, f', u', e2, rfl, ho', hc', hd', hr', hi', hf'⟩ := h2.tup
  rw [e1, e2]
  obtain ⟨l1, _⟩ := ra_get hr
  obtain ⟨l2, _⟩ := ra_get hr'
  have p1 := tOnly_plain _ o1
  have p2 := tOnly_plain _ o2
  rw [PyData.plain, PyData.plainAll, Bool.and_eq_true] at p1 p2
  rw [okD, okDs, Bool.and_eq_true] at oo
  have d1 : PyData.depthAll ds ≤ 60 := by
    rw [PyData.depth, PyData.depthAll] at d1
    have := Nat.le_max_right f.depth (PyData.depthAll ds)
    omega
  refine PySem.W.kat_lt ho hd ho' hd' ?_
  rw [ltD, ltDs]
  have ez : decide (its.size < its'.size) = decide (ds.length < es.length) := by
    rw [Array.length_toList, List.length_cons] at l1 l2
    exact decide_eq_decide.mpr (by omega)
  rw [ez]
  obtain ⟨il⟩ := its
  obtain ⟨il'⟩ := its'
  cases hr with
  | cons r1 rs1 =>
    cases hr' with
    | cons r2 rs2 =>
      have ru := hi
      have ru' := hi'
      simp only [List.getElem?_toArray, List.getElem?_cons_zero, Option.some.injEq] at ru ru'
      subst ru ru'
      show PySem.W.KatLex prog w A true _ _ ((_ :: _).zip (_ :: _)) 0 s
      rw [List.zip_cons_cons]
      have rest : ∀ Q : Bool → Shared → Prop, Q (ltDs ds es) s → PySem.W.KatLex prog w A true (decide (ds.length < es.length)) Q (List.zip _ _) 1 s := fun Q q => lexD_rest ds es _ _ 1 _ _ rs1 rs2 oo.2 p1.2 p2.2 (by omega) (by decide) rfl q
      rcases hf with ⟨_, i, k1, rfl, rfl⟩ | ⟨ht, x, k1, rfl, rfl⟩
      · rcases hf' with ⟨_, j, k2, rfl, rfl⟩ | ⟨_, y, k2, rfl, rfl⟩
        · refine PySem.W.kat_cons (SeqAt.EqAt.int_int i k1 j k2 prog w _ _ ?_)
          refine PySem.W.kat_go (fun e1 => ?_) (fun e1 => ?_)
          · refine PySem.W.kat_yes (rest _ ⟨rfl, ?_⟩)
            rw [if_pos (by simpa [PyData.eqv] using e1)]
          · refine PySem.W.kat_no (TS.oneLt_ints _ ⟨rfl, ?_⟩)
            rw [if_neg (by simpa [PyData.eqv] using e1), ltD]
        · simp [okD] at oo
      · rcases hf' with ⟨_, j, k2, rfl, rfl⟩ | ⟨_, y, k2, rfl, rfl⟩
        · simp [okD] at oo
        · refine PySem.W.kat_cons (SeqAt.EqAt.str_str x k1 y k2 prog w _ _ ?_)
          refine PySem.W.kat_go (fun e1 => ?_) (fun e1 => ?_)
          · refine PySem.W.kat_yes (rest _ ⟨rfl, ?_⟩)
            rw [if_pos (by simpa [PyData.eqv] using e1)]
          · refine PySem.W.kat_no (oneLt_strs _ ⟨rfl, ?_⟩)
            rw [if_neg (by simpa [PyData.eqv] using e1), ltD]
theorem firstsD {h : Heap} {t : Bool} {k : Value → PyData} : ∀ vs : List Value, (∀ v ∈ vs, IsDt h t v (k v)) → ∃ fs, PySem.W.KatTups h vs fs ∧ fs.length = vs.length ∧ ∀ f ∈ fs, (t = true ∧ ∃ i k, f = .int i k) ∨ (t = false ∧ ∃ x k, f = .str x k)
  | [], _ => ⟨[], .nil, rfl, fun f hf => by cases hf⟩
  | v :: vs, hp => by
    obtain ⟨fs, kt, l, hf⟩ := firstsD (h := h) (k := k) vs fun u hu => hp u (List.mem_cons_of_mem _ hu)
    obtain ⟨a, o, its, n, ds, as, f, u, e1, _, ho, hc, hd, hr, hi, hfu⟩ := (hp v List.mem_cons_self).tup
    subst e1
    exact ⟨u :: fs, .cons ho hc hd hi kt, by rw [List.length_cons, l]; rfl, fun f' hm => by
      rcases List.mem_cons.mp hm with rfl | hm
      · rcases hfu with ⟨e, i, k, _, rfl⟩ | ⟨e, x, k, _, rfl⟩
        · exact .inl ⟨e, _, _, rfl⟩
        · exact .inr ⟨e, _, _, rfl⟩
      · exact hf f' hm⟩
theorem dts_sortable {a : Addr} {vs : List Value} {k : Value → PyData} {t : Bool} (h0 : 0 < vs.length) (hu : A.units + 64 < cLine) (hp : ∀ v ∈ vs, IsDt s.heap t v (k v)) (dp : ∀ v ∈ vs, (k v).depth ≤ 60) (ok : ∀ v ∈ vs, ∀ u ∈ vs, okD (k v) (k u) = true) (ha : ∀ o, s.heap.get? a = some o → o.cls ≠ .type "tuple") : SortableO prog w A s a vs fun v u => ltD (k v) (k u) := by
  intro h' keep
  have hp' : ∀ v ∈ vs, IsDt h' t v (k v) := fun v hm => by
    obtain ⟨⟨as, r⟩, h2, h3⟩ := hp v hm
    exact ⟨⟨as, reads_but keep ha _ _ _ h2 r⟩, h2, h3⟩
  obtain ⟨fs, h1, h2, h3⟩ := firstsD vs hp'
  refine ⟨tuples' true, fun Q E hq => ?_, dt_cmp hu hp' dp ok⟩
  cases t with
  | true =>
    refine PySem.W.kat_kind (T := .type "int") h1 (by omega) (fun f hm => ?_) (by rfl) ?_
    · rcases h3 f hm with ⟨_, i, k, rfl⟩ | ⟨e, _⟩
      · exact PySem.W.Looks.now
      · cases e
    · have e : (Value.type "int" != Value.type "tuple") = true := by first | decide +kernel | rfl | decide
      rw [e]
      exact hq
  | false =>
    refine PySem.W.kat_kind (T := .type "str") h1 (by omega) (fun f hm => ?_) (by rfl) ?_
    · rcases h3 f hm with ⟨e, _⟩ | ⟨_, x, k, rfl⟩
      · cases e
      · exact PySem.W.Looks.now
    · have e : (Value.type "str" != Value.type "tuple") = true := by first | decide +kernel | rfl | decide
      rw [e]
      exact hq
end
abbrev ltK (k : V → PyData) (x y : V) : Bool := ltD (k x) (k y)
structure SrtX (K : PySem.W.Frag) (H : Hp) (t : Bool) (k : V → PyData) (x : V) : Prop where
  rf : ∃ a, x = V.ref a
  dp : Dp K H x (k x)
  on : tOnly (k x) = true
  hd : headK t (k x) = true
  dq : (k x).depth ≤ 60
/-- sorted(xs), xs a list or tuple of tuples of data -/
def rSortDt (K : PySem.W.Frag) : List V → Hp → VK → Prop := fun vs H Q => ∃ (a : Addr) (xs : List V) (k : V → PyData) (t : Bool), vs = [V.ref a] ∧ (SqL K H a xs ∨ SqT K H a xs) ∧ Swo (ltK k) ∧ (∀ x ∈ xs, SrtX K H t k x) ∧ (∀ x ∈ xs, ∀ y ∈ xs, okD (k x) (k y) = true) ∧
  ∀ ys p, Srtd (ltK k) ys → Stb (ltK k) ys xs → H p = none → Q (.ref p) (upd H p (.lst ys))
theorem call_sortDt {X : Cx} (hu : X.A.units + 100 < cLine) : CallR X (.builtin "sorted") (rSortDt X.K) := by
  intro pins s σ H vs us Q I r h
  obtain ⟨a, xs, k, t, rfl, hs, O, hx, ok, q⟩ := h
  obtain ⟨u, rfl, ru⟩ := vals1 r
  obtain rfl : u = Value.ref a := ru
  have Ov : Swo fun v u : Value => ltD (k (backV v)) (k (backV u)) := ⟨fun x y => O.1 _ _, fun x y z => O.2 _ _ _⟩
  have items : ∀ {its : List Value}, Vals xs its → xs = its.map backV ∧ (∀ u ∈ its, ∃ a, u = Value.ref a) ∧ (∀ v ∈ its, IsDt s.heap t v (k (backV v)) ∧ (k (backV v)).depth ≤ 60) ∧ ∀ v ∈ its, ∀ u ∈ its, okD (k (backV v)) (k (backV u)) = true := fun {its} rv => by
    obtain ⟨e1, e2⟩ := refs_back rv fun x m => (hx x m).rf
    have hm : ∀ v ∈ its, backV v ∈ xs := fun v hv => by rw [e1]; exact List.mem_map.mpr ⟨_, hv, rfl⟩
    refine ⟨e1, e2, fun v hv => ?_, fun v hv u hu => ok _ (hm v hv) _ (hm u hu)⟩
    have z := hx _ (hm v hv)
    obtain ⟨b, rfl⟩ := e2 v hv
    obtain ⟨as, r⟩ := Dp.reads I _ _ (Value.ref b) z.dp rfl
    exact ⟨⟨⟨as, r⟩, z.on, z.hd⟩, z.dq⟩
  have fin : ∀ {its out : List Value} {h' : Heap} {d c : Nat}, Vals xs its → xs.length ≤ sizeLine → (∀ b o, s.heap.get? b = some o → h'.get? b = some o) → s.heap.objs.size ≤ d → h'.get? d = some (seqObj "list" out.toArray c) →
      Srtd (fun v u => ltD (k (backV v)) (k (backV u))) out → Stb (fun v u => ltD (k (backV v)) (k (backV u))) out its → EP X pins σ Q (.ref d) { s with heap := h' } := fun {its out h' d c} rv hz kp hd hn h1 h2 => by
    obtain ⟨e1, e2, _⟩ := items rv
    have h3 : ∀ u ∈ out, ∃ a, u = Value.ref a := fun u hu => e2 u (h2.perm.mem_iff.mp hu)
    have hb : Stb (ltK k) (out.map backV) xs := by
      rw [e1]
      exact Stb.map O backV h2
    refine ⟨.ref d, upd H d (.lst (out.map backV)), I.laid (t' := s.toks) kp hd ⟨?_, out, c, vals_back h3, hn⟩, rfl, q _ d (srtd_map h1) hb (I.hok.fresh hd)⟩
    rw [hb.len]
    exact hz
  have keepD : ∀ {h' : Heap} {v : Value} {d : PyData}, (∀ b o, s.heap.get? b = some o → h'.get? b = some o) → IsDt s.heap t v d → IsDt h' t v d := fun kp z => by
    obtain ⟨⟨as, r⟩, h2, h3⟩ := z
    exact ⟨⟨as, Reads.keeps kp r⟩, h2, h3⟩
  rcases hs with hs | hs
  · obtain ⟨its, rv, hl, hz⟩ := I.list hs
    obtain ⟨e1, e2, e3, e4⟩ := items rv
    refine sorted_ord Ov hl.isList (by rw [← rv.length]; exact hz) (fun h2 h₁ a' ha kk => ?_) fun out h1 h2 => ?_
    · refine dts_sortable (s := { s with heap := h₁ }) (t := t) (by omega) (by show X.A.units + 1 + 1 + 64 < cLine; omega) (fun v hm => keepD (fun b o e => (kk b o e).2) (e3 v hm).1) (fun v hm => (e3 v hm).2) e4 fun o e => ?_
      have e' : some o = some (seqObj "list" its.toArray 0) := e.symm.trans ha
      cases e'
      intro c
      exact absurd (Value.type.inj c) (by decide)
    · obtain ⟨c, hcc⟩ := sortedAll_at s.heap its out.toArray
      exact fin rv hz (fun b o e => sortedAll_old e) (Nat.le_succ _) hcc h1 h2
  · obtain ⟨its, rv, pt, hz⟩ := I.tuple hs
    obtain ⟨e1, e2, e3, e4⟩ := items rv
    obtain ⟨o, ho, hc, n, hd⟩ := id pt
    have len : its.length ≤ sizeLine := by rw [← rv.length]; exact hz
    refine Calls.call_function_entry kind_sorted plain_sorted entry_sorted (args_sorted1 _) ?_
    unfold Builtin.«sorted»
    refine wpAny_bind (m := checkCount "sorted" 1 1 _) (wpAny_pure ?_)
    refine wpAny_bind (gather_tuple (A := X.A.in1) ho hc hd (by rw [List.size_toArray]; exact len) ?_)
    generalize hg : gath s.heap its.toArray = h'
    have hk : ∀ b u, s.heap.get? b = some u → h'.get? b = some u := fun b u e => by
      rw [← hg]
      exact gath_old e
    show wpAny _ _ _ _ _ { s with heap := h' }
    refine wpAny_bind (wpAny_newList ?_ (by show its.length ≤ _; exact len))
    have hoL : (h'.push (seqObj "list" its.toArray 0)).get? h'.objs.size = some (seqObj "list" its.toArray 0) := Heap.get?_push_size _ rfl
    have hz0 : s.heap.objs.size ≤ h'.objs.size := by
      rw [← hg, gath_size]
      exact Nat.le_succ _
    refine wpAny_bind (wpAny_holding (wpAny_call_entry slot_list_sort ⟨_, hoL, rfl⟩ entry_list_sort (list_sort_ord Ov hoL len (fun h2 => ?_) fun out h1 h2 => ⟨_, rfl, ?_⟩) (args_list_sort _)))
    · refine dts_sortable (t := t) (by omega) (by show X.A.units + 1 + 1 + 64 < cLine; omega) (fun v hm => keepD (fun b o e => Heap.get?_push_of_some _ (hk b o e)) (e3 v hm).1) (fun v hm => (e3 v hm).2) e4 fun o e => ?_
      have e' : some o = some (seqObj "list" its.toArray 0) := e.symm.trans hoL
      cases e'
      intro c
      exact absurd (Value.type.inj c) (by decide)
    · obtain ⟨c, hcc⟩ := sortedHeap_at (vs := its) (out := out.toArray) hoL
      have keep : ∀ b u, s.heap.get? b = some u → (sortedHeap (h'.push (seqObj "list" its.toArray 0)) h'.objs.size its out.toArray).get? b = some u := by
        intro b u e
        have e2 := hk b u e
        have lt := Heap.lt_size e2
        rw [sortedHeap_old (Nat.ne_of_lt lt) (by rw [size_push']; exact Nat.lt_succ_of_lt lt)]
        exact Heap.get?_push_of_some _ e2
      exact wpAny_pure ⟨_, rfl, fin rv hz keep hz0 hcc h1 h2⟩
end Gd
set_option Elab.async false
set_option linter.all false
set_option maxRecDepth 100000
set_option maxHeartbeats 4000000
/-! Te: sorted(..) of a list of tuples of ints, the first of which is empty. -/
namespace Gd
open PySem PySem.Spec PyProof.Rows L2 SrtO
theorem lexI_lt : ∀ xs ys : List Int, lexI xs ys = HT.lexLt xs ys
  | [], [] => rfl
  | [], _ :: _ => rfl
  | _ :: _, [] => rfl
  | x :: xs, y :: ys => by
    show (if x = y then lexI xs ys else decide (x < y)) = (if x = y then HT.lexLt xs ys else decide (x < y))
    rw [lexI_lt xs ys]
section
variable {prog : Program} {w : World} {A : Around} {s : Shared} {E : Value → Shared → Prop}
theorem lt_pt {v u : Value} {ns ms : List Int} {Q : Bool → Shared → Prop} (hu : A.units < cLine) (hv : IsIT s.heap v ns) (hw : IsIT s.heap u ms) (h : Q (lexI ns ms) s) : wpAny (model prog w) A (keyLt' oneType' v u) Q E s := by
  obtain ⟨a, o, its, n, rfl, ho, hc, hd, rv⟩ := hv
  obtain ⟨a', o', its', n', rfl, ho', hc', hd', rv'⟩ := hw
  obtain ⟨c1, d1, t1, l1⟩ := o
  obtain ⟨c2, d2, t2, l2⟩ := o'
  dsimp only at hc hd hc' hd'
  subst hc hd hc' hd'
  rw [lexI_lt] at h
  have hT : s.TypeIs (.ref a) "tuple" := ⟨_, ho, rfl⟩
  rw [keyLt'_oneType, oneLt'_eq]
  simp only [if_true]
  refine wpAny_bind (wpAny_cRoomFor hu ?_)
  have key : wpAny (model prog w) A (call (.builtin "tuple.__lt__") [.ref a, .ref a']) (fun r s' => r = .bool (HT.lexLt ns ms) ∧ s' = s) E s := by
    refine wpAny_call (codeAny_call_builtin PySem.F.slot_tuple_lt.plain PySem.F.entry_tuple_lt (PySem.F.slot_tuple_lt.check _ _ _ _ _ _ _ _ hT (PySem.F.args_tuple_lt_2 _ _) ?_))
    refine wpAny_mono (HT.tuple_lt_ints a a' its its' n n' d1 d2 l1 l2 ns ms (intsAre_of rv) (intsAre_of rv') prog w _ (wants (fun r s' => r = .bool (HT.lexLt ns ms) ∧ s' = s) E) s ⟨ho, ho', rfl, rfl⟩) (fun fin s' q => ?_) fun _ _ z => z
    cases fin with
    | done f => exact q
    | again c => exact q
  refine wpAny_bind (wpAny_callSpecialIfBound?_slot (name := Str.ofString "__lt__") hT PySem.F.slot_tuple_lt (wpAny_mono key (fun r s' z => ?_) fun _ _ e => e))
  obtain ⟨rfl, rfl⟩ := z
  exact wpAny_truthy_bool h
theorem pt_cmp {vs : List Value} {k : Value → List Int} (hu : A.units < cLine) (hp : ∀ v ∈ vs, IsIT s.heap v (k v)) : Cmp prog w A s oneType' (fun p => p.1 ∈ vs) (lt2 fun v u => lexI (k v) (k u)) := by
  intro p q hm hm'
  exact lt_pt (Q := fun r s' => s' = s ∧ r = lexI (k p.1) (k q.1)) (E := fun _ _ => False) hu (hp _ hm) (hp _ hm') ⟨rfl, rfl⟩
/-- what the first items of such tuples are, where there is one -/
def frst : List Int → Option Int
  | [] => none
  | x :: _ => some x
theorem firsts_run {M : Model} {k : Value → List Int} {Q : List (Option Value) → Shared → Prop} : ∀ vs : List Value, (∀ v ∈ vs, IsIT s.heap v (k v)) → (∀ fs : List (Option Value), fs.map Option.isSome = vs.map (fun v => (frst (k v)).isSome) → Q fs s) → wpAny M A (vs.mapM firstOfTuple') Q E s
  | [], _, h => by
    rw [List.mapM_nil]
    exact wpAny_pure (h [] rfl)
  | v :: vs, hp, h => by
    obtain ⟨a, o, its, n, e, ho, hc, hd, rv⟩ := hp v List.mem_cons_self
    subst e
    rw [List.mapM_cons, PySem.W.kas_first_eq]
    refine wpAny_bind (wpAny_bind (PySem.W.Looks.here (show PySem.W.Looks M s.heap (typeOf (.ref a)) o.cls from (PySem.W.Looks.ld ho).andThen .now) ?_))
    rw [hc, if_neg (by first | decide | simp)]
    refine wpAny_bind (listItems_at ho hd (wpAny_pure ?_))
    refine wpAny_bind (firsts_run vs (fun u hu => hp u (List.mem_cons_of_mem _ hu)) fun fs e => wpAny_pure (h _ ?_))
    rw [List.map_cons, List.map_cons, e]
    congr 1
    obtain ⟨l⟩ := its
    cases hk : k (.ref a) with
    | nil =>
      rw [hk] at rv
      cases rv
      rfl
    | cons x xs =>
      rw [hk] at rv
      cases rv
      rfl
theorem pt_kind {M : Model} {v0 : Value} {vs : List Value} {k : Value → List Int} {Q : SortKind → Shared → Prop} (hp : ∀ v ∈ v0 :: vs, IsIT s.heap v (k v)) (h0 : k v0 = []) (h : Q oneType' s) : wpAny M A (keyKind' (v0 :: vs).toArray) Q E s := by
  rw [kat_kind_eq, List.mapM_toArray, map_eq_pure_bind]
  refine wpAny_bind (wpAny_bind (firsts_run _ hp fun fs e => wpAny_pure ?_))
  rw [List.map_cons, h0] at e
  cases fs with
  | nil => cases e
  | cons f fs =>
    rw [List.map_cons] at e
    have ef : f.isSome = false := (List.cons.inj e).1
    have ef : f = none := by
      cases f with
      | none => rfl
      | some _ => cases ef
    subst ef
    rw [if_neg (by simp), if_neg (by simp)]
    rw [oneTypeOnly'_eq, List.mapM_toArray, map_eq_pure_bind]
    refine wpAny_bind (wpAny_bind (wpAny_bind (PySem.W.kas_mapM (r := .type "tuple") _ (fun v hv Q' hq => ?_) (wpAny_pure ?_))))
    · obtain ⟨a, o, its, n, e, ho, hc, hd, rv⟩ := hp v hv
      subst e
      rw [← hc] at hq
      exact PySem.W.Looks.here (show PySem.W.Looks M s.heap (typeOf (.ref a)) o.cls from (PySem.W.Looks.ld ho).andThen .now) hq
    · have hall2 : ((List.map (fun _ => Value.type "tuple") (v0 :: vs)).toArray.all fun x => x == Value.type "tuple") = true := by
        simp only [List.all_toArray, List.all_map, List.all_eq_true]
        intro _ _
        rfl
      have h0 : (List.map (fun _ => Value.type "tuple") (v0 :: vs)).toArray[0]? = some (Value.type "tuple") := by simp
      rw [h0]
      simp only [hall2, if_true]
      exact wpAny_pure (wpAny_pure h)
theorem pts_sortable {a : Addr} {v0 : Value} {vs : List Value} {k : Value → List Int} (hu : A.units < cLine) (hp : ∀ v ∈ v0 :: vs, IsIT s.heap v (k v)) (h0 : k v0 = []) (ha : ∀ o, s.heap.get? a = some o → o.cls ≠ .type "tuple") : SortableO prog w A s a (v0 :: vs) fun v u => lexI (k v) (k u) := by
  intro h' keep
  have hp' : ∀ v ∈ v0 :: vs, IsIT h' v (k v) := fun v hm => by
    obtain ⟨b, o, its, n, e, ho, hc, hd, rv⟩ := hp v hm
    exact ⟨b, o, its, n, e, keep b o (fun z => by subst z; exact ha o ho hc) ho, hc, hd, rv⟩
  exact ⟨oneType', fun Q E hq => pt_kind (s := { s with heap := h' }) hp' h0 hq, pt_cmp hu hp'⟩
end
/-- sorted(xs), xs a list of tuples of ints, the first one empty (k says which) -/
def rSortE (K : PySem.W.Frag) : List V → Hp → VK → Prop := fun vs H Q => ∃ (a : Addr) (x0 : V) (xs : List V) (k : V → List Int), vs = [V.ref a] ∧ SqL K H a (x0 :: xs) ∧ k x0 = [] ∧ (∀ x ∈ x0 :: xs, ∃ t, x = V.ref t ∧ SqT K H t ((k x).map V.int)) ∧
  ∀ ys p, Srtd (ltI k) ys → Stb (ltI k) ys (x0 :: xs) → H p = none → Q (.ref p) (upd H p (.lst ys))
theorem call_sortE {X : Cx} (hu : X.A.units + 64 < cLine) : CallR X (.builtin "sorted") (rSortE X.K) := by
  intro pins s σ H vs us Q I r h
  obtain ⟨a, x0, xs, k, rfl, hs, h0, hx, q⟩ := h
  obtain ⟨u, rfl, ru⟩ := vals1 r
  obtain rfl : u = Value.ref a := ru
  obtain ⟨its, rv, hl, hz⟩ := I.list hs
  obtain ⟨e1, e2⟩ := refs_back rv fun x m => by
    obtain ⟨t, e, _⟩ := hx x m
    exact ⟨t, e⟩
  have e3 : ∀ v ∈ its, IsIT s.heap v (k (backV v)) := fun v hv => by
    obtain ⟨t, rfl⟩ := e2 v hv
    have hm : V.ref t ∈ x0 :: xs := by rw [e1]; exact List.mem_map.mpr ⟨_, hv, rfl⟩
    obtain ⟨t', e, ht⟩ := hx _ hm
    cases e
    obtain ⟨its2, r2, ⟨o, ho, hc, n, hd⟩, _⟩ := I.tuple ht
    exact ⟨t, o, its2.toArray, n, rfl, ho, hc, hd, r2⟩
  obtain ⟨v0, vs, rfl⟩ : ∃ v0 vs, its = v0 :: vs := by
    cases its with
    | nil => cases rv
    | cons v0 vs => exact ⟨v0, vs, rfl⟩
  have hk0 : k (backV v0) = [] := by
    have z : x0 = backV v0 := by
      rw [List.map_cons] at e1
      exact (List.cons.inj e1).1
    rw [← z]
    exact h0
  refine sorted_ord (lexI_swo fun v => k (backV v)) hl.isList (by rw [← rv.length]; exact hz) (fun h2 h₁ a' ha kk => ?_) fun out h1 h2 => ?_
  · refine pts_sortable (s := { s with heap := h₁ }) (by show X.A.units + 1 + 1 < cLine; omega) (fun v hm => ?_) hk0 fun o e => ?_
    · obtain ⟨b, o, its2, n, e, ho, hc, hd, rv2⟩ := e3 v hm
      exact ⟨b, o, its2, n, e, (kk b o ho).2, hc, hd, rv2⟩
    · have e' : some o = some (seqObj "list" (v0 :: vs).toArray 0) := e.symm.trans ha
      cases e'
      intro c
      exact absurd (Value.type.inj c) (by decide)
  · obtain ⟨c, hcc⟩ := sortedAll_at s.heap (v0 :: vs) out.toArray
    have h3 : ∀ u ∈ out, ∃ a, u = Value.ref a := fun u hu => e2 u (h2.perm.mem_iff.mp hu)
    have hb : Stb (ltI k) (out.map backV) (x0 :: xs) := by
      rw [e1]
      exact Stb.map (lexI_swo k) backV h2
    refine ⟨.ref (s.heap.objs.size + 1), upd H (s.heap.objs.size + 1) (.lst (out.map backV)), I.laid (t' := s.toks) (fun b o e => sortedAll_old e) (Nat.le_succ _) ⟨?_, out, c, vals_back h3, hcc⟩, rfl, q _ _ (srtd_map h1) hb (I.hok.fresh (Nat.le_succ _))⟩
    rw [hb.len]
    exact hz
end Gd
set_option Elab.async false
set_option linter.all false
set_option maxRecDepth 100000
set_option maxHeartbeats 4000000
/-! Xa: exceptions of own classes with an own __init__ of one field, over any built-in base (KeyError among them); held as values or raised. -/
namespace Xc
open PySem PySem.Spec PySem.Calls PyProof.Rows PySem.HandSPX L2
open Builtin Builtin.ObjectAttr
/-- what is asked of the bases bm of an own class whose __new__ is B's -/
structure Bases (B : String) (bm : List Value) : Prop where
  hB : ∀ C : Addr, (Value.ref C :: bm).contains (.type B) = true
  hA : ∀ C : Addr, (Value.ref C :: bm).contains (.type "AttributeError") = false
  hN : ∀ C : Addr, (Value.ref C :: bm).contains (.type "NameError") = false
  hO : ∀ C : Addr, (Value.ref C :: bm).contains (.type "object") = true
  pass : ∀ (C : Addr) (self : Value), refuseLoop self "__setattr__" (.ref C :: bm) = pure ()
def basesB (B : String) (bm : List Value) : Bool := (Value.ref 0 :: bm).contains (.type B) && (!(Value.ref 0 :: bm).contains (.type "AttributeError") && (!(Value.ref 0 :: bm).contains (.type "NameError") && (Value.ref 0 :: bm).contains (.type "object")))
theorem con_ref {C : Addr} {bm : List Value} {T : String} : (Value.ref C :: bm).contains (.type T) = (Value.ref 0 :: bm).contains (.type T) := by
  rw [List.contains_cons, List.contains_cons]
  rfl
theorem Bases.of {B : String} {bm : List Value} (h : basesB B bm = true) (p : ∀ self : Value, refuseLoop self "__setattr__" bm = pure ()) : Bases B bm := by
  unfold basesB at h
  simp only [Bool.and_eq_true, Bool.not_eq_true'] at h
  obtain ⟨h1, h2, h3, h4⟩ := h
  exact ⟨fun C => con_ref.trans h1, fun C => con_ref.trans h2, fun C => con_ref.trans h3, fun C => con_ref.trans h4, fun C self => (refuseLoop_ref self _ C bm).trans (p self)⟩
theorem pass_ref {bm : List Value} {D : Addr} (p : ∀ self : Value, refuseLoop self "__setattr__" bm = pure ()) (self : Value) : refuseLoop self "__setattr__" (.ref D :: bm) = pure () := (refuseLoop_ref self _ D bm).trans (p self)
theorem pass_VE (self : Value) : refuseLoop self "__setattr__" [.type "ValueError", .type "Exception", .type "BaseException", .type "object"] = pure () := by kernel_rfl
theorem pass_IE (self : Value) : refuseLoop self "__setattr__" [.type "IndexError", .type "LookupError", .type "Exception", .type "BaseException", .type "object"] = pure () := by kernel_rfl
theorem pass_KE (self : Value) : refuseLoop self "__setattr__" [.type "KeyError", .type "LookupError", .type "Exception", .type "BaseException", .type "object"] = pure () := by kernel_rfl
theorem pass_LE (self : Value) : refuseLoop self "__setattr__" [.type "LookupError", .type "Exception", .type "BaseException", .type "object"] = pure () := by kernel_rfl
theorem pass_OE (self : Value) : refuseLoop self "__setattr__" [.type "OverflowError", .type "ArithmeticError", .type "Exception", .type "BaseException", .type "object"] = pure () := by kernel_rfl
theorem pass_AE (self : Value) : refuseLoop self "__setattr__" [.type "ArithmeticError", .type "Exception", .type "BaseException", .type "object"] = pure () := by kernel_rfl
theorem bases_VE {D : Addr} : Bases "ValueError" [.ref D, .type "ValueError", .type "Exception", .type "BaseException", .type "object"] := .of (by rfl) (pass_ref pass_VE)
theorem bases_IE : Bases "IndexError" [.type "IndexError", .type "LookupError", .type "Exception", .type "BaseException", .type "object"] := .of (by decide +kernel) pass_IE
theorem bases_KE : Bases "LookupError" [.type "KeyError", .type "LookupError", .type "Exception", .type "BaseException", .type "object"] := .of (by decide +kernel) pass_KE
theorem bases_LE : Bases "LookupError" [.type "LookupError", .type "Exception", .type "BaseException", .type "object"] := .of (by decide +kernel) pass_LE
theorem bases_OE : Bases "OverflowError" [.type "OverflowError", .type "ArithmeticError", .type "Exception", .type "BaseException", .type "object"] := .of (by decide +kernel) pass_OE
theorem bases_AE : Bases "ArithmeticError" [.type "ArithmeticError", .type "Exception", .type "BaseException", .type "object"] := .of (by decide +kernel) pass_AE
section
variable {M : Model} {A : Around} {E : Value → Shared → Prop} {h : Heap} {g : Array GenState} {d : Drawn} {t : Nat} {os : OsState}
variable {nm q : Str} {C N : Addr} {bs bm bmB : List Value} {hdct : Bool} {sn : List Str} {sub : List Value} {ab : Bool} {col : Option Bool} {dd : Option Addr} {k0 k1 k2 k3 k5 : Option Value} {B newId initId : String}
theorem new_check (F : ExcBaseFacts B newId initId bmB) (b : Bases B bm) {rest : List Value} {Q : Unit → Shared → Prop}
    (hC : h.get? C = some (excClassObj nm q C N bs bm hdct sn sub ab col dd k0 k1 k2 k3 k5 newId)) (hq : Q () ⟨h, g, d, t, os⟩) : wpAny M A (checkBuiltinCall newId ⟨.ref C :: rest, []⟩) Q E ⟨h, g, d, t, os⟩ := by
  have hcont := b.hB C
  have hstar := F.noStar
  simp only [checkBuiltinCall, F.newKind, F.newSplit, F.newRow]
  repeat (first | refine wpAny_loadPart_at hC ?_ | (refine wpAny_isSubtype_exc hC ?_; rw [hcont]) | refine wpAny_staticBase_exc hC ?_ | refine wpAny_madeBy_exc hC ?_ | simp only [bne_self_eq_false, Bool.false_eq_true, if_false] | wp_step)
  exact hq
end
section
variable {prog : Program} {w : World} {A : Around} {E : Value → Shared → Prop} {R : Result → Shared → Prop} {h : Heap} {g : Array GenState} {d : Drawn} {t : Nat} {os : OsState}
variable {nm q : Str} {C N : Addr} {bs bm bmB : List Value} {hdct : Bool} {sn : List Str} {sub : List Value} {ab : Bool} {col : Option Bool} {dd : Option Addr} {k0 k1 k2 k3 k5 : Option Value} {B newId initId : String}
theorem new_made (F : ExcBaseFacts B newId initId bmB) (b : Bases B bm) {rest : List Value}
    (hC : h.get? C = some (excClassObj nm q C N bs bm hdct sn sub ab col dd k0 k1 k2 k3 k5 newId))
    (hq : R (.ok (.ret (.ref (h.objs.size + 1)))) ⟨(h.push { cls := .type "tuple", data := .seq rest.toArray }).push (excO C h.objs.size), g, d, t, os⟩) (hrest : rest.length ≤ sizeLine) :
    codeAny (model prog w) A (.builtin newId ⟨.ref C :: rest, []⟩) R ⟨h, g, d, t, os⟩ := by
  have hends := F.ends
  have hcB := b.hB C
  have hcA := b.hA C
  have hcN := b.hN C
  refine codeAny_builtinAt F.entry ?_
  unfold Builtin.«BaseException.__new__»
  refine PySem.wpAt_bind ?_
  show PySem.wpAt _ _ _ (stack >>= _) _ _ _
  refine PySem.wpAt_bind (PySem.wpAt_stack fun p below => PySem.wpAt_of_wpAny ?_)
  wp_walk
  refine PySem.wpAt_of_wpAny ?_
  rw [F.owner]
  repeat (first | with_reducible refine wpAny_madeHere_exc F.canon hC ?_ | with_reducible refine wpAny_loadPart_at hC ?_ | (with_reducible refine wpAny_isSubtype_exc hC ?_; first | rw [hcB] | rw [hcA] | rw [hcN]) | wp_step)
  show R _ _
  rw [Heap.size_push]
  exact hq
theorem type_makes (F : ExcBaseFacts B newId initId bmB) (b : Bases B bm) {rest : List Value} {fI : Addr} {Q : Fin → Shared → Prop}
    (hC : h.get? C = some (excClassObj nm q C N bs bm hdct sn sub ab col dd k0 k1 k2 k3 k5 newId))
    (hi : W.Looks (model prog w) h (typeLookup (.ref C) "__init__") (some (.ref fI))) (hb : ∀ self, W.Looks (model prog w) h (bindSpecial (.ref fI) self) (.ref fI, [self])) (hrest : rest.length ≤ sizeLine)
    (hq : codeAny (model prog w) A (.call (.ref fI) ⟨.ref (h.objs.size + 1) :: rest, []⟩)
      (fun r s' => match r with | .ok (.ret v) => v = .none ∧ Q (.done (.ret (.ref (h.objs.size + 1)))) s' | .ok _ => False | .error e => E e s')
      ⟨(h.push (W.kdv_tup rest)).push (excO C h.objs.size), g, d, t, os⟩) :
    wpAny (model prog w) A (Builtin.«type.__call__» ⟨.ref C :: rest, []⟩) Q E ⟨h, g, d, t, os⟩ := by
  repeat (first | with_reducible refine wpAny_loadPart_at hC ?_ | with_reducible refine wpAny_madeBy_exc hC ?_ | wp_step)
  refine codeAny_call_builtin_code (Code.quiet_builtin _ F.quiet) (new_check F b hC ?_)
  refine new_made F b hC ?_ hrest
  show wpAny _ _ _ _ _ _
  have k : ∀ b o, h.get? b = some o → ((h.push (W.kdv_tup rest)).push (excO C h.objs.size)).get? b = some o := fun b o e => Heap.get?_push_of_some _ (Heap.get?_push_of_some _ e)
  have hC₁ := k _ _ hC
  have hget : ((h.push (W.kdv_tup rest)).push (excO C h.objs.size)).get? (h.objs.size + 1) = some (excO C h.objs.size) := by heap_get
  have hcC : (Value.ref C :: bm).contains (.ref C) = true := by simp
  have i1 := hi.keeps k
  have b1 := (hb (.ref (h.objs.size + 1))).keeps k
  unfold isInstance
  repeat (first | with_reducible refine wpAny_loadPart_at hget ?_ | (with_reducible refine wpAny_isSubtype_exc hC₁ ?_; rw [hcC]) | wp_step)
  show wpAny _ _ (typeLookup (.ref C) _) _ _ _
  refine i1.at ?_
  refine wpAny_holding (wpAny_bind (b1.at ?_))
  refine wpAny_bind (wpAny_call (codeAny_mono hq fun r s' z => ?_))
  rcases r with e | (v | _ | _ | _) <;> first | exact z | exact z.elim | skip
  obtain ⟨rfl, z⟩ := z
  first
    | exact wpAny_pure (wpAny_pure z)
    | (wp_walk; exact z)
theorem makes (F : ExcBaseFacts B newId initId bmB) (b : Bases B bm) {rest : List Value} {fI : Addr}
    (hC : h.get? C = some (excClassObj nm q C N bs bm hdct sn sub ab col dd k0 k1 k2 k3 k5 newId))
    (hi : W.Looks (model prog w) h (typeLookup (.ref C) "__init__") (some (.ref fI))) (hb : ∀ self, W.Looks (model prog w) h (bindSpecial (.ref fI) self) (.ref fI, [self])) (hrest : rest.length ≤ sizeLine)
    (hq : codeAny (model prog w) (A.under (.builtin "type.__call__" ⟨.ref C :: rest, []⟩)) (.call (.ref fI) ⟨.ref (h.objs.size + 1) :: rest, []⟩) (W.InitBack (h.objs.size + 1) R)
      ⟨(h.push (W.kdv_tup rest)).push (excO C h.objs.size), g, d, t, os⟩) :
    codeAny (model prog w) A (.call (.ref C) ⟨rest, []⟩) R ⟨h, g, d, t, os⟩ := by
  have f1 := tc_lookup
  have f2 := tc_bind (.ref C)
  have hTy : (⟨h, g, d, t, os⟩ : Shared).TypeIs (.ref C) "type" := ⟨_, hC, rfl⟩
  refine codeAny_of_tree ?_
  show wpAny _ _ (callAny (.ref C) _) _ _ _
  repeat (any_goals (first | assumption | with_reducible refine wpAny_loadPart_at hC ?_ | wp_step))
  refine ⟨rfl, ?_⟩
  refine codeAny_call_builtin_at (Code.quiet_builtin _ (by decide +kernel)) entry_typeCall (wpAny_check_type_call_sub hC (type_makes F b hC hi hb hrest ?_))
  refine codeAny_mono hq fun r s' z => ?_
  rcases r with e | (v | _ | _ | _) <;> exact z
end
/-! ### self.name = v, the first one -/
section
variable {prog : Program} {w : World} {A : Around} {E : Value → Shared → Prop} {R : Result → Shared → Prop} {hp : Heap} {g : Array GenState} {d : Drawn} {t : Nat} {os : OsState}
theorem sets {K : W.Frag} {name : Str} {tk : Tok} {v : Value} {x C : Addr} {fv : Array Value} {cd : ClassData} {B : String} {bm : List Value} (b : Bases B bm)
    (X : K.In hp) (hx : hp.get? x = some { cls := .ref C, data := .fields fv }) (hcd : W.clsIn K C = some cd) (hm : cd.mro = .ref C :: bm) (hh : cd.hasDict = true) (ha : W.findIn K (.ref C) name = some none)
    (hq : ∀ h' tk' dx, (∀ b o, b ≠ x → hp.get? b = some o → h'.get? b = some o) → hp.objs.size ≤ dx → dx ≠ x → h'.get? x = some { cls := .ref C, dict := some dx, data := .fields fv } →
      h'.Ns1 dx (fun y => if y = name then some v else none) → R (.ok (.ret .none)) ⟨h', g, d, tk', os⟩) :
    codeAny (model prog w) A (.call (.builtin "object.__setattr__") ⟨[.ref x, .str name tk, v], []⟩) R ⟨hp, g, d, t, os⟩ := by
  have I : W.InstAt hp x { cls := .ref C, data := .fields fv } C none := ⟨hx, rfl, rfl, trivial⟩
  have SF := F.store_object
  have ne : cd.mro.isEmpty = false := by rw [hm]; rfl
  have hob : cd.mro.contains (.type "object") = true := by rw [hm]; exact b.hO C
  have hxs : x ≠ hp.objs.size := Nat.ne_of_lt (Heap.lt_size hx)
  have sub : W.Looks (model prog w) hp (isInstance (.ref x) (.type "object")) true := I.type.andThen (W.looks_mroIn X (by unfold W.mroIn; rw [hcd, Option.bind_some, if_neg (by rw [ne]; decide), hob]))
  refine codeAny_call_builtin SF.slot.plain SF.entry (@W.check_slot (model prog w) _ _ ⟨hp, g, d, t, os⟩ "object.__setattr__" "object" "__setattr__" (.ref x) [.str name tk, v] [] _ SF.kind SF.split sub (SF.args (.ref x) (.str name tk) v) ?_)
  have hmr : W.Looks (model prog w) hp (mroOf (.ref C)) cd.mro := (W.looks_clsIn X hcd).andThen .now
  have L3 : W.Looks (model prog w) hp (storeTaker? none) none := .now
  have hcls : W.Looks (model prog w) hp (classData C) cd := W.looks_clsIn X hcd
  rw [W.osa_eq, refuse_eq]
  refine wpAny_bind (wpAny_bind (I.type.at (wpAny_bind (hmr.at ?_))))
  rw [hm, b.pass C]
  refine wpAny_pure (wpAny_bind (I.type.at (wpAny_bind ((W.looks_findIn X ha).at (wpAny_bind (L3.at ?_))))))
  show wpAny _ _ (storeInOwnDict (.ref x) (.ref C) (.str name tk) name v false) _ _ _
  obtain ⟨nm, bs, mro, ns, qn, hd, sn, sb, ab, col, del⟩ := cd
  dsimp only at hh
  subst hh
  unfold storeInOwnDict ownDictForStores
  repeat (first | with_reducible refine store_in_new ?_ ?_ | with_reducible refine wpAny_loadPart_at hx ?_ | with_reducible refine hcls.at ?_ | wp_step)
  · exact ⟨_, #[], _, (Heap.get?_update_ne _ _ _ _ hxs.symm).trans (Heap.get?_push_at rfl rfl), rfl, fun e he => absurd he (by simp), fun _ => rfl⟩
  · intro h' tk' hn' hs
    have hx₁ : (hp.push { cls := .type "dict", data := .dict #[] }).get? x = some { cls := .ref C, data := .fields fv } := Heap.get?_push_of_some _ hx
    refine hq h' tk' hp.objs.size (fun b o hb ho => ?_) (Nat.le_refl _) hxs.symm ?_ hn'
    · exact (hs.2 b (Nat.ne_of_lt (Heap.lt_size ho))).trans ((Heap.get?_update_ne _ _ _ _ hb).trans (Heap.get?_push_of_some _ ho))
    · exact (hs.2 x hxs).trans (Heap.get?_update_self _ hx₁ rfl)
end
end Xc
set_option Elab.async false
set_option linter.all false
set_option maxRecDepth 100000
set_option maxHeartbeats 4000000
/-! Xb: rules for errors that are held as values: made, asked for their classes, read, shown; repr of plain values. -/
namespace Xc
open PySem PySem.Spec PySem.Calls PyProof.Rows PySem.HandSPX L2 Gd
/-- what the written part says of an own class with an own __init__ over B -/
structure Own (K : PySem.W.Frag) (C fI : Addr) : Prop where
  made : ∃ B newId initId bmB, ExcBaseFacts B newId initId bmB ∧ ∃ nm q N bs bm sn sub ab col dd k0 k1 k2 k3 k5, K.lookup C = some (excClassObj nm q C N bs bm true sn sub ab col dd k0 k1 k2 k3 k5 newId) ∧ Bases B bm
  sa : PySem.W.findIn K (.ref C) "__setattr__" = some (some (.builtin "object.__setattr__"))
  exC : PySem.W.subIn K (.ref C) (.type "BaseException") = some true
  tyC : PySem.W.typeIn K (.ref C) = some (.type "type")
  kC : PySem.W.keepIn K (.ref C) = true
  iC : PySem.W.findIn K (.ref C) "__init__" = some (some (.ref fI))
  tI : PySem.W.typeIn K (.ref fI) = some (.type "function")
/-- the Bool that says `made` -/
def madeB (K : PySem.W.Frag) (C : Addr) (bm : List Value) (newId : String) : Bool := match K.lookup C with
  | some ⟨.type "type", _, .cls cd, sl⟩ => (match cd.mro, sl.toList with
    | .ref C' :: bm', [_, _, _, _, some (.builtin n), _] => C' == C && (n == newId && (!cd.hasDel && (cd.hasDict && bm' == bm)))
    | _, _ => false)
  | _ => false
theorem made_of {K : PySem.W.Frag} {C : Addr} {bm : List Value} {newId : String} (q : madeB K C bm newId = true) : ∃ nm q N bs sn sub ab col dd k0 k1 k2 k3 k5, K.lookup C = some (excClassObj nm q C N bs bm true sn sub ab col dd k0 k1 k2 k3 k5 newId) := by
  unfold madeB at q
  split at q
  · rename_i dd cd sl ho
    split at q
    · rename_i C' bm' k0 k1 k2 k3 n k5 hm hs
      simp only [Bool.and_eq_true, beq_iff_eq, Bool.not_eq_true'] at q
      obtain ⟨e1, e2, e3, e4, e5⟩ := q
      obtain ⟨nm, bs, mro, ns, qn, hd, sn, sub, ab, col, del⟩ := cd
      dsimp only at hm e3 e4
      subst e1 e2 e3 e4 e5 hm
      have hsl : sl = #[k0, k1, k2, k3, some (.builtin n), k5] := by
        obtain ⟨l⟩ := sl
        simp only at hs
        rw [hs]
      subst hsl
      exact ⟨_, _, _, _, _, _, _, _, _, _, _, _, _, _, ho⟩
    · cases q
  · cases q

/-! ### the object -/
/-- at a: an error of the class at C; its only field (none: a class without an own __init__) -/
def Held (H : Hp) (a C : Addr) : Option (Str × V) → Prop
  | none => H a = some (ExO (.ref C) a)
  | some (f, v) => ∃ d, H a = some (exo a C (some d)) ∧ H d = some (exd d [(f, v)])
section
variable {X : Cx} {pins : List (Addr × Obj)} {σ : L2.St} {H : Hp} {s : Shared}
theorem held_at {a C : Addr} {fl : Option (Str × V)} (I : Inv X pins σ H s) (h : Held H a C fl) : ∃ ox od, PySem.W.InstAt s.heap a ox C od ∧ ∀ f v, fl = some (f, v) → ∃ o u, od = some o ∧ PySem.W.lookIn f o = some (some u) ∧ RelV v u := by
  cases fl with
  | none =>
    obtain ⟨⟨oe, vs, e, z, d, _⟩, _⟩ := (show ObjOk X.prog X.w H s.heap a (ExO (.ref C) a) from I.hok a _ h)
    refine ⟨oe, none, ⟨e, z.1, by unfold PySem.W.notCls; rw [d], by rw [z.2]; trivial⟩, fun f v q => by cases q⟩
  | some p =>
    obtain ⟨f, v⟩ := p
    obtain ⟨d, ea, ed⟩ := h
    obtain ⟨t1, ho⟩ := exo_at I.hok ea
    obtain ⟨mA, hns, rel⟩ := exd_at I.hok ed
    obtain ⟨od, hod, hl⟩ := lookIn_ns hns
    refine ⟨_, some od, ⟨ho, rfl, rfl, hod⟩, fun g w q => ?_⟩
    cases q
    obtain ⟨u, hu, ru⟩ := RelO.some_of (v := v) (o := mA f) (by
      have z := rel f
      rw [lookup_put, if_pos rfl] at z
      exact z)
    exact ⟨od, u, rfl, by rw [hl, hu], ru⟩
/-- isinstance(e, c), e an error that is held -/
def rIsV (K : PySem.W.Frag) : List V → Hp → VK → Prop := fun xs H Q => ∃ (a C : Addr) (fl : Option (Str × V)) (c : V) (u : Value) (b : Bool), xs = [.ref a, c] ∧ Held H a C fl ∧ ExcC K C ∧ ClsV c u ∧ PySem.W.kitOne K (.ref C) u = some b ∧ Q (.bl b) H
theorem call_isV : CallR X (.builtin "isinstance") (rIsV X.K) := by
  intro pins s σ H xs us Q I r h
  obtain ⟨a, C, fl, c, u, b, rfl, hh, hc, k, e, q⟩ := h
  obtain ⟨u1, u2, rfl, r1, r2⟩ := vals2 r
  have e2 := k.eq r2
  subst e2
  cases (show u1 = Value.ref a from r1)
  obtain ⟨ox, od, J, _⟩ := held_at I hh
  have hcl : (PySem.W.clsIn X.K C).isSome = true := by
    obtain ⟨cd, z, _⟩ := PySem.W.any_some hc.hd
    rw [z]
    rfl
  exact PySem.W.kia_one (PySem.W.kitx_exc (ox := ox) (od := od) hcl hc.hg hc.hk hc.hs hc.ha hc.hn hc.ht hc.hm) I.kIn J e (fun z => nomatch z) fun tk => ⟨.bl b, H, I.tok tk, rfl, q⟩
/-- e.f, e an error that is held -/
def tXv (K : PySem.W.Frag) (f : Str) (te : TE) : TE := fun σ H Q => te σ H fun x H1 => ∃ a C v, x = .ref a ∧ Held H1 a C (some (f, v)) ∧ XfC K C ∧ PySem.W.findIn K (.ref C) f = some none ∧ Q v H1
theorem pe_xv {e : Expr} {te : TE} {pos : Pos} {n : Str} (he : PE X e te) (hb : attributeBase e n X.env (eval e X.env) = eval e X.env := by rfl) : PE X (.Attribute e n pos) (tXv X.K n te) := by
  refine ⟨fun pins s σ H Q I h => ?_⟩
  refine attr_of hb (thn (he.run pins s σ H _ I h) fun u s1 hh => ?_)
  obtain ⟨x, H1, I1, rx, a, C, v, ex, hh, T, hno, q⟩ := hh
  subst ex
  obtain rfl : u = Value.ref a := rx
  obtain ⟨ox, od, J, hl⟩ := held_at I1 hh
  obtain ⟨o, u, eo, l, ru⟩ := hl _ _ rfl
  subst eo
  exact HandSPX.exc_get I1.kIn J T.ga T.gg T.exC (PySem.W.findObj_own T.hdC hno rfl l) (handed_of ru) ⟨v, H1, I1.tok _, ru, q⟩
end
/-! ### made -/
section
variable {X : Cx} {pins : List (Addr × Obj)} {σ : L2.St} {H : Hp} {s : Shared} {a C fI : Addr} {f : Str} {y : V} {u : Value} {Q : Unit → Shared → Prop} {E : Value → Shared → Prop} {A : Around}
theorem sets1 (T : Own X.K C fI) (I : Inv X pins σ H s) (e : H a = some (exo a C none)) (hno : PySem.W.findIn X.K (.ref C) f = some none) (ry : RelV y u)
    (h : ∀ dx s', H dx = none → dx ≠ a → Inv X pins σ (upd (upd H dx (exd dx [(f, y)])) a (exo a C (some dx))) s' → Q () s') : wpAny (model X.prog X.w) A (setAttr (.ref a) f u) Q E s := by
  obtain ⟨B, newId, initId, bmB, F, nm, q, N, bs, bm, sn, sub, ab, col, dd, k0, k1, k2, k3, k5, hC, hB⟩ := T.made
  have hcl : PySem.W.clsIn X.K C = some { name := nm, bases := bs, mro := .ref C :: bm, ns := N, qualname := q, hasDict := true, slotNames := sn, subclasses := sub, abstract := ab, collection := col, hasDel := false } := by unfold PySem.W.clsIn; rw [hC] <;> rfl
  obtain ⟨t1, ho⟩ := exo_at I.hok e
  obtain ⟨hp, g, d, t, os⟩ := s
  refine PySem.W.set_plain I.kIn (ox := { cls := .ref C, dict := none, data := .fields #[.ref t1, .none, .none, .none, .bool false, .none] }) (od := none) ⟨ho, rfl, rfl, trivial⟩ T.sa ?_
  refine sets hB I.kIn ho hcl rfl rfl hno (fun h' tk' dx k dn dne hx hn => ?_)
  have hnd : H dx = none := I.hok.fresh dn
  have nd : ∀ {b : Addr} {o : Obj}, hp.get? b = some o → b ≠ dx := fun {b o} q => Nat.ne_of_lt (Nat.lt_of_lt_of_le (Heap.lt_size q) dn)
  have na : ∀ {b : Addr}, H b = none → b ≠ a := fun {b} n z => by
    rw [z, e] at n
    cases n
  have Un1 : Un X.fs [] H (upd (upd H dx (exd dx [(f, y)])) a (exo a C (some dx))) hp h' := {
    keep := fun b o q n _ _ => k b o (na n) q
    slot := fun b o q n _ _ => ⟨o.slots, k b o (na n) q⟩
    free := fun b o q n _ => by rw [upd_ne (na n), upd_ne (nd q)]; exact n
    there := fun b o q _ => by
      by_cases hb : b = a
      · exact ⟨_, by rw [hb]; exact hx⟩
      · exact ⟨o, k b o hb q⟩
    tups := fun b xs q => by rw [upd_ne (at_ne e q exo_tup), upd_ne (ne_of_none q hnd)]; exact q
    frzs := fun b o v q => by rw [upd_ne (at_ne e q exo_frz), upd_ne (ne_of_none q hnd)]; exact q
    tbls := fun b ps q => ⟨#[], by rw [upd_ne (at_ne e q exo_tbl), upd_ne (ne_of_none q hnd), q]; simp⟩ }
  refine h dx _ hnd dne (I.un (t' := tk') Un1 fun b o q => ?_)
  by_cases hb : b = a
  · subst hb
    rw [upd_same] at q
    cases q
    exact exo_ok hx
  · rw [upd_ne hb] at q
    by_cases hd : b = dx
    · subst hd
      rw [upd_same] at q
      cases q
      exact exd_ok hn (relO_put (fs := []) ry fun g => True.intro)
    · rw [upd_ne hd] at q
      exact (I.hok b o q).stay (fun c v hc z => k c v (by
          rcases hc with hc | hc
          · rw [hc]
            exact hb
          · exact at_ne e hc exo_own) z)
        (fun c hc => by rw [upd_ne (at_ne e hc exo_own), upd_ne (ne_of_none hc hnd)]; exact hc) (fun c xs hc => by rw [upd_ne (at_ne e hc exo_tup), upd_ne (ne_of_none hc hnd)]; exact hc)
end
/-- self.f = e in such an __init__ -/
def tSet (K : PySem.W.Frag) (f : Str) (to te : TE) : TS := fun D σ H => te σ H fun y H1 => to σ H1 fun x H2 => ∃ a C fI : Addr, x = .ref a ∧ Own K C fI ∧ PySem.W.findIn K (.ref C) f = some none ∧
  H2 a = some (exo a C none) ∧ ∀ dx, H2 dx = none → dx ≠ a → D.nx σ (upd (upd H2 dx (exd dx [(f, y)])) a (exo a C (some dx)))
/-- what such an __init__ does: its one field is set -/
def spInit (K : PySem.W.Frag) (f : Str) : Sp := fun vs H Q _ => ∃ a C fI y, vs = [.ref a, y] ∧ Own K C fI ∧ PySem.W.findIn K (.ref C) f = some none ∧ H a = some (exo a C none) ∧ ∀ dx, H dx = none → dx ≠ a → Q .non (upd (upd H dx (exd dx [(f, y)])) a (exo a C (some dx)))
section
variable {X : Cx} {o e : Expr} {es : List Expr} {to te : TE} {ta : TA} {f : Str} {p p' p1 p2 pos : Pos}
theorem ps_set1 (ho : PE X o to) (he : PE X e te) (hs : swapsWith e (some (.Attribute o f p')) pos.line X.env = pure false := by rfl) : PS X (.Assign [.Attribute o f p'] e pos) (tSet X.K f to te) := by
  refine ⟨fun pins s σ H D I h => ?_⟩
  refine plainObj_wpAny_Assign_Attribute (thn (he.run pins s σ H _ I h) fun v s1 ⟨y, H1, I1, r1, q1⟩ => thn (ho.run pins s1 σ H1 _ I1 q1) fun u s2 ⟨x, H2, I2, r2, a, C, fI, ex, T, hno, ea, q⟩ => ?_) hs
  subst ex
  obtain rfl : u = Value.ref a := r2
  exact sets1 T I2 ea hno r1 fun dx s' n ne J => ⟨σ, _, J, q dx n ne⟩
/-- C(e), as a value -/
theorem pe_own {CX : CXT} {x : Str} {C fI : Addr} {k : Nat} {fd : FuncData} {ps : List Str} {fl : Str} (T : Own X.K C fI) (F1 : FnOk X.prog X.w X.K X.mg X.base CX k fI fd ps (spInit X.K fl)) (hno : PySem.W.findIn X.K (.ref C) fl = some none)
    (hr : Room (k + 1) X.A) (hb : Binds X.K fd ps []) (hx : Passes CX X (fun _ _ _ => False)) (hg : Gl X x) (hm : X.mg x = some (.ref C)) (he : PE X e te)
    (hdb : (x == ("__debug__" : Str)) = false := by decide) (hs : starEach [e] X.env = (false, eval e X.env) :: starEach [] X.env := by rfl) :
    PE X (.Call (.Name x p) [e] [] pos) (fun σ H Q => te σ H fun y H1 => ∀ a d, H1 a = none → H1 d = none → a ≠ d → Q (.ref a) (upd (upd H1 d (exd d [(fl, y)])) a (exo a C (some d)))) := by
  refine ⟨fun pins s σ H Q I h => ?_⟩
  obtain ⟨B, newId, initId, bmB, F, nm, q, N, bs, bm, sn, sub, ab, col, dd, k0, k1, k2, k3, k5, hC, hB⟩ := T.made
  refine wpAny_Call_Name_kw (ld_glob I hg hm ?_ hdb)
  refine PySem.W.callWith_K (h₀ := X.base) I.ok.mod.kin T.kC ?_ hs (by rfl)
  rw [hs]
  show wpAny _ _ (spliced ((false, eval e X.env) :: backTo pos (starEach [] X.env))) _ _ s
  refine Calls.spliced_cons (thn (he.run pins s σ H _ I h) fun u s1 ⟨v, H1, I1, r1, q1⟩ => ?_)
  refine Calls.spliced_nil ⟨I1.kIn, ?_⟩
  show wpAny _ _ (call (.ref C) [u]) _ _ _
  obtain ⟨hp, g, dr, tk, os⟩ := s1
  have hsz : hp.objs.size ≤ hp.objs.size + 1 := Nat.le_succ _
  have hn : H1 (hp.objs.size + 1) = none := I1.hok.fresh hsz
  have kk : ∀ b o, hp.get? b = some o → ((hp.push (PySem.W.kdv_tup [u])).push (excO C hp.objs.size)).get? b = some o := fun b o e => Heap.get?_push_of_some _ (Heap.get?_push_of_some _ e)
  have hget : ((hp.push (PySem.W.kdv_tup [u])).push (excO C hp.objs.size)).get? (hp.objs.size + 1) = some (excO C hp.objs.size) := by heap_get
  have I2 : Inv X pins σ (upd H1 (hp.objs.size + 1) (exo (hp.objs.size + 1) C none)) ⟨(hp.push (PySem.W.kdv_tup [u])).push (excO C hp.objs.size), g, dr, tk, os⟩ :=
    I1.laid (t' := tk) (a := hp.objs.size + 1) (o := exo (hp.objs.size + 1) C none) (h' := (hp.push (PySem.W.kdv_tup [u])).push (excO C hp.objs.size)) kk hsz (exo_ok hget)
  have r2 : Vals [V.ref (hp.objs.size + 1), v] [Value.ref (hp.objs.size + 1), u] := .cons rfl (.cons r1 .nil)
  have hq : spInit X.K fl [V.ref (hp.objs.size + 1), v] (upd H1 (hp.objs.size + 1) (exo (hp.objs.size + 1) C none)) (fun w G => w = .non ∧ Q (.ref (hp.objs.size + 1)) G) (fun _ _ _ => False) := by
    refine ⟨_, C, fI, v, rfl, T, hno, upd_same, fun dx nd ne => ⟨rfl, ?_⟩⟩
    rw [upd_ne ne] at nd
    have e1 : upd (upd (upd H1 (hp.objs.size + 1) (exo (hp.objs.size + 1) C none)) dx (exd dx [(fl, v)])) (hp.objs.size + 1) (exo (hp.objs.size + 1) C (some dx)) = upd (upd H1 dx (exd dx [(fl, v)])) (hp.objs.size + 1) (exo (hp.objs.size + 1) C (some dx)) := by
      funext b
      by_cases hb : b = hp.objs.size + 1
      · rw [hb, upd_same, upd_same]
      · rw [upd_ne hb, upd_ne hb]
        by_cases hb2 : b = dx
        · rw [hb2, upd_same, upd_same]
        · rw [upd_ne hb2, upd_ne hb2, upd_ne hb]
    rw [e1]
    exact q1 _ dx hn nd (Ne.symm ne)
  have hl : ([Value.ref (hp.objs.size + 1), u] ++ []).length = ps.length := by
    have e := r2.length
    rw [F1.len _ _ _ _ hq] at e
    exact e.symm
  have bd := hb _ [Value.ref (hp.objs.size + 1), u] I2.kIn hl
  rw [List.append_nil] at bd
  refine wpAny_call (makes F hB (I1.kIn _ _ hC) (PySem.W.looks_findIn I1.kIn T.iC) (fun self => PySem.W.bind_fn I1.kIn self T.tI) (by show 1 ≤ sizeLine; rw [sizeLine_eq]; omega)
    (codeAny_mono (F1.run _ X.stack _ _ ⟨[Value.ref (hp.objs.size + 1), u], []⟩ [Value.ref (hp.objs.size + 1), u] _ _ (fun _ _ _ => False) (hr.make C [u] []) (I2.env0.make C [u] []) bd r2 hq) fun r s' hq' => ?_))
  cases r with
  | error er => exact hx pins σ _ _ er s' I2 hq'
  | ok fl =>
    cases fl with
    | ret u' =>
      obtain ⟨w', H2, os2, bare2, un2, hok2, rv, ev, q2⟩ := hq'
      subst ev
      refine ⟨rv, ?_⟩
      exact I2.after (Q := fun _ G => Q (.ref (hp.objs.size + 1)) G) (u := .ref (hp.objs.size + 1)) ⟨.ref (hp.objs.size + 1), H2, os2, bare2, un2, hok2, rfl, q2⟩ |> fun ⟨w2, H3, I3, r3, q3⟩ => ⟨.ref (hp.objs.size + 1), H3, I3, rfl, q3⟩
    | next => exact False.elim hq'
    | brk => exact False.elim hq'
    | cont => exact False.elim hq'
end
end Xc
set_option Elab.async false
set_option linter.all false
set_option maxRecDepth 100000
set_option maxHeartbeats 4000000
/-! Xd: raise C(e) with an own __init__; try with several clauses, each over one class or a tuple of them, with a name or none. -/
namespace Xc
open PySem PySem.Spec PySem.Calls PyProof.Rows PySem.HandSPX L2 Gd
section
variable {M : Model} {K : PySem.W.Frag} {A : Around} {E : Value → Shared → Prop}
theorem loop_unit {I : Shared → Prop} {f : Value → PUnit → Sem (ForInStep PUnit)} : ∀ {cs : List Value} {s : Shared} {Q : PUnit → Shared → Prop}, (∀ c ∈ cs, ∀ R : ForInStep PUnit → Shared → Prop, R (.yield ⟨⟩) s → wpAny M A (f c ⟨⟩) R E s) → Q ⟨⟩ s → wpAny M A (forIn cs PUnit.unit f) Q E s
  | [], s, Q, _, q => by
    rw [List.forIn_nil]
    exact wpAny_pure q
  | c :: cs, s, Q, h, q => by
    rw [List.forIn_cons]
    exact wpAny_bind (h c List.mem_cons_self _ (loop_unit (I := I) (fun d hd => h d (List.mem_cons_of_mem _ hd)) q))
theorem loop_find {cls : Value} {f : Value → Option Bool × PUnit → Sem (ForInStep (Option Bool × PUnit))} : ∀ {cs : List Value} {b : Bool} {s : Shared} {Q : Option Bool × PUnit → Shared → Prop}, PySem.W.exmAny K cls cs = some b →
    (∀ c ∈ cs, ∀ d, PySem.W.exmOne K cls c = some d → ∀ R : ForInStep (Option Bool × PUnit) → Shared → Prop, R (if d then .done (some true, ⟨⟩) else .yield (none, ⟨⟩)) s → wpAny M A (f c (none, ⟨⟩)) R E s) →
    Q (if b then (some true, ⟨⟩) else (none, ⟨⟩)) s → wpAny M A (forIn cs ((none : Option Bool), PUnit.unit) f) Q E s
  | [], b, s, Q, e, _, q => by
    have e : some false = some b := e
    cases e
    rw [List.forIn_nil]
    exact wpAny_pure q
  | c :: cs, b, s, Q, e, h, q => by
    obtain ⟨b1, d1, h1, h2, rfl⟩ := PySem.W.exmAny_cons e
    rw [List.forIn_cons]
    refine wpAny_bind (h c List.mem_cons_self b1 h1 _ ?_)
    cases b1 with
    | true => exact wpAny_pure q
    | false => exact loop_find (cls := cls) h2 (fun d hd => h d (List.mem_cons_of_mem _ hd)) q
theorem exm_at {cls : Value} : ∀ {cs : List Value} {b : Bool}, PySem.W.exmAny K cls cs = some b → ∀ c ∈ cs, ∃ d, PySem.W.exmOne K cls c = some d
  | [], _, _, _, h => nomatch h
  | c :: cs, b, e, x, h => by
    obtain ⟨b1, d1, h1, h2, _⟩ := PySem.W.exmAny_cons e
    rcases List.mem_cons.mp h with rfl | h
    · exact ⟨b1, h1⟩
    · exact exm_at h2 x h
/-- a tuple of classes in an except clause -/
theorem exm_tup {cls : Value} {cs : List Value} {tp e : Addr} {b : Bool} {h : Heap} (X : K.In h) (LT : PySem.W.Looks M h (typeOf (.ref e)) cls) (hp : h.get? tp = some { cls := .type "tuple", data := .seq cs.toArray }) (hx : PySem.W.exmAny K cls cs = some b) :
    PySem.W.Looks M h (excMatches (.ref e) (.ref tp)) b := by
  intro A Q E s k₀ q
  obtain ⟨hh, g, d, tk, os⟩ := s
  have k : ∀ b o, h.get? b = some o → hh.get? b = some o := k₀
  have LT0 : PySem.W.Looks M h (isInstance (.ref tp) (.type "tuple")) true := ((PySem.W.Looks.ld hp).andThen .now).andThen (PySem.W.Looks.of_pure isSubtype_tuple_tuple)
  have LT := LT.keeps k
  have LT0 := LT0.keeps k
  have hp' := k _ _ hp
  unfold excMatches
  refine wpAny_bind (LT0.at ?_)
  dsimp only
  rw [if_pos rfl]
  first
    | refine wpAny_bind (wpAny_seqItems hp' rfl ?_)
    | refine wpAny_bind (wpAny_bind (wpAny_seqItems hp' rfl (wpAny_pure ?_)))
  dsimp only [Option.getD_some, Option.getD]
  refine wpAny_bind (wpAny_pure ?_)
  refine wpAny_bind (loop_unit (I := fun _ => True) (fun c hc R r => ?_) ?_)
  · obtain ⟨d, hd⟩ := exm_at hx c hc
    obtain ⟨e1, _⟩ := PySem.W.exm_cls (M := M) X hd
    refine wpAny_bind ((e1.keeps k).at ?_)
    simp only [Bool.not_true, Bool.false_eq_true, if_false]
    exact wpAny_pure r
  refine wpAny_bind (LT.at ?_)
  refine wpAny_bind (loop_find (K := K) hx (fun c hc d hd R r => ?_) ?_)
  · obtain ⟨_, S1⟩ := PySem.W.exm_cls (M := M) X hd
    refine wpAny_bind ((S1.keeps k).at ?_)
    cases d with
    | true =>
      simp only [if_true]
      exact wpAny_pure r
    | false =>
      simp only [Bool.false_eq_true, if_false]
      exact wpAny_pure r
  cases b with
  | true =>
    simp only [if_true]
    exact wpAny_pure q
  | false =>
    simp only [Bool.false_eq_true, if_false]
    exact wpAny_pure q
end
end Xc
set_option Elab.async false
set_option linter.all false
set_option maxRecDepth 100000
set_option maxHeartbeats 4000000
/-! Xe: try with several clauses, each over one class or a tuple of them, with a name or none. -/
namespace Xc
open PySem PySem.Spec PySem.Calls PyProof.Rows PySem.HandSPX L2 Gd
inductive NmsAll (X : Cx) : List Expr → List Value → Prop
  | nil : NmsAll X [] []
  | cons {x : Str} {c : Value} {p : Pos} {es : List Expr} {cs : List Value} (h : Names X x c) (r : NmsAll X es cs) : NmsAll X (.Name x p :: es) (c :: cs)
/-- the classes that a clause's test names -/
inductive Cl (X : Cx) : Expr → List Value → Prop
  | one {x : Str} {c : Value} {p : Pos} (h : Names X x c) : Cl X (.Name x p) [c]
  | tup {es : List Expr} {cs : List Value} {j : Nat} {p : Pos} (h : NmsAll X es cs) (few : cs.length ≤ sizeLine) : Cl X (.Tuple es j p) cs
/-- one clause: its classes, its slot (if it has a name), its suite's reading -/
abbrev Cla := List Value × Option Nat × (Addr → Value → Option Addr → TS)
abbrev asEnds (D : Ends) (i : Nat) : Ends := { nx := fun σ' H' => D.nx (σ'.set i none) H', rt := D.rt, bk := fun σ' H' => D.bk (σ'.set i none) H', ct := fun σ' H' => D.ct (σ'.set i none) H' }
def suiteW (i : Option Nat) (ts : Addr → Value → Option Addr → TS) (a : Addr) (cls : Value) (d : Option Addr) (D : Ends) (σ : L2.St) (H : Hp) : Prop := match i with
  | none => ts a cls d D σ H
  | some i => ts a cls d (asEnds D i) (σ.set i (some (.ref a))) H
def wG (K : PySem.W.Frag) (Wout : WX) (D : Ends) : List Cla → WX
  | [] => Wout
  | (cs, i, ts) :: r => fun cls d σ H => ∃ b, PySem.W.exmAny K cls cs = some b ∧ (b = true → ∀ a, H a = none → suiteW i ts a cls d D σ H) ∧ (b = false → wG K Wout D r cls d σ H)
inductive HdsG (X : Cx) : List ExceptHandler → List Cla → Prop
  | nil : HdsG X [] []
  | cons {te : Expr} {cs : List Value} {ts : Addr → Value → Option Addr → TS} {b₀ : Stmt} {suite : List Stmt} {pos' : Pos} {hds : List ExceptHandler} {l : List Cla} (ht : Cl X te cs)
      (hsu : ∀ (a : Addr) (oe : Obj) (cls : Value) (d : Option Addr) (pn : List (Addr × Obj)), Zc cls d oe → (∃ vs, oe.data = .fields vs) → PSs (X.suite a ((a, oe) :: pn)) (b₀ :: suite) (ts a cls d)) (r : HdsG X hds l) :
      HdsG X (.ExceptHandler (some te) none (b₀ :: suite) pos' :: hds) ((cs, none, ts) :: l)
  | as {te : Expr} {cs : List Value} {n : Str} {i : Nat} {ts : Addr → Value → Option Addr → TS} {b₀ : Stmt} {suite : List Stmt} {pos' : Pos} {hds : List ExceptHandler} {l : List Cla} (ht : Cl X te cs)
      (hi : X.N[i]? = some n) (hln : X.env.kindOf n = some .local)
      (hsu : ∀ (a : Addr) (oe : Obj) (cls : Value) (d : Option Addr) (pn : List (Addr × Obj)), Zc cls d oe → (∃ vs, oe.data = .fields vs) → PSs (X.suite a ((a, oe) :: pn)) (b₀ :: suite) (ts a cls d)) (r : HdsG X hds l) :
      HdsG X (.ExceptHandler (some te) (some n) (b₀ :: suite) pos' :: hds) ((cs, some i, ts) :: l)
theorem flying_push {B : Heap} {l : List Env} {a : Addr} {Z : Obj → Prop} {h : Heap} {o : Obj} (x : FlyingZ B l a Z h) : FlyingZ B l a Z (h.push o) := by
  have k : ∀ b u, h.get? b = some u → (h.push o).get? b = some u := fun _ _ e => Heap.get?_push_of_some _ e
  obtain ⟨h1, h2, h3, oe, vs, T, oT, ts, e1, e2, e3, e4, e5, e6, e7, e8, e9⟩ := x
  exact ⟨fun b u e => k b u (h1 b u e), h2, Heap.FunFrames.of_keeps (fun b u e _ => ⟨u, k b u e, rfl⟩) h3, oe, vs, T, oT, ts, k _ _ e1, e2, e3, e4, e5, e6, k _ _ e7, e8, e9⟩
section
variable {X : Cx}
/-- a list of class names: nothing changes -/
theorem names_run {E : Value → Shared → Prop} {a : Addr} {q : Addr × Obj} {pn : List (Addr × Obj)} {σ : L2.St} {H : Hp} {s : Shared} {pos : Pos} (S : Inv (X.suite a (q :: pn)) [] σ H s) : ∀ {es : List Expr} {cs : List Value} {Q : List Value → Shared → Prop}, NmsAll X es cs → Q cs s →
    wpAny (model X.prog X.w) (X.A.mark (some (.ref a))) (spliced (backTo pos (starEach es X.env))) Q E s
  | _, _, Q, .nil, h => wpAny_items_nil h
  | _, _, Q, .cons (x := x) (c := c) (p := p) (es := es) (cs := cs) hn r, h => by
    refine wpAny_items_cons ?_
    have go : wpAny (model X.prog X.w) (X.A.mark (some (.ref a))) (spliced (backTo pos (starEach es X.env))) (fun vs s₂ => Q (c :: vs) s₂) E s := names_run S r h
    obtain ⟨hg, hdbg, hm | ⟨hm, hv, hnn⟩⟩ := hn
    · exact ld_glob (X := X.suite a (q :: pn)) S hg hm go hdbg
    · exact ld_blt (X := X.suite a (q :: pn)) S hg hm hv go hnn hdbg
variable {body : List Stmt} {h₀ : ExceptHandler} {hds : List ExceptHandler} {l : List Cla} {pos : Pos} {tb : WX → TS} {Wout : WX}
theorem ps_try_g (hs : X.stack = X.env :: X.outer) (hf : X.env.frame = some X.env.locals) (hN : X.N.Nodup) (tk : Takes X Wout)
    (hb : ∀ (W : WX) (pn : List (Addr × Obj)) (xe : Value → Shared → Prop), Takes (X.tr pn xe) W → PassesOwn (model X.prog X.w) X.A X.env xe → PSs (X.tr pn xe) body (tb W))
    (hh : HdsG X (h₀ :: hds) l) : PS X (.Try body (h₀ :: hds) [] [] pos) (fun D σ H => tb (wG X.K Wout D l) D σ H) := by
  refine ⟨fun pins s σ H D I h => ?_⟩
  have ok := I.ok
  have hfr : X.A.frames = some (X.env :: X.outer) := by rw [ok.frames, hs]
  refine wpAny_Try_except ?_
  refine wpAny_mono ((hb (wG X.K Wout D l) (X.pn ++ pins) (fun e s₁ => wpAny (model X.prog X.w) X.A (noteFrame e X.env) (fun _ s₂ => wpAny (model X.prog X.w) X.A (setFlight e none) (fun _ s₃ =>
    wpAny (model X.prog X.w) X.A (handleBy e X.env (h₀ :: hds)) (SP X pins D) X.xe s₃) X.xe s₂) X.xe s₁) (fun u s' xx => ?_) PassesOwn.looking).run [] s σ H D (I.toTry _) h) (fun f s1 hsp => ?_) (fun e s1 he => he)
  · -- the catch
    obtain ⟨a, B, sI, pins', σ', H', cls, d, rfl, J', nb, up, sky, na, os, ag, w⟩ := xx
    have J : Inv X pins σ' H' sI := J'.ofTry ok
    have sky' : Sky B (X.env :: X.outer) a (Zc cls d) X.env.locals s'.heap := by rw [← hs]; exact sky
    show wpAny (model X.prog X.w) X.A (noteFrame (.ref a) X.env) _ _ _
    refine Sky.land Zc.steady hfr hf sky' fun h3 fl3 up3 => ?_
    have notFr : ∀ {h : Heap} {o : Obj} {vs : Array Value}, h.FunFrames B (X.env :: X.outer) → h.get? a = some o → o.data = .fields vs → a ∉ frs (X.env :: X.outer) := fun {h o vs} ff e dd hm => by
      obtain ⟨_, o', e', hnf⟩ := ff.mem hm
      rw [e] at e'; cases e'
      exact hnf _ dd
    have nfr : a ∉ frs (X.env :: X.outer) := by
      obtain ⟨oe3, vs3, he3, hz3, hd3⟩ := fl3.there
      exact notFr fl3.2.2.1 he3 hd3
    have nL : a ≠ X.env.locals := fun z => nfr (List.mem_filterMap.mpr ⟨X.env, List.mem_cons_self, by rw [hf, z]⟩)
    have nF : a ∉ X.fs := fun hm => by
      obtain ⟨e, he, q⟩ := List.mem_filterMap.mp hm
      exact nfr (List.mem_filterMap.mpr ⟨e, List.mem_cons_of_mem _ he, q⟩)
    have go : ∀ {hds' : List ExceptHandler} {l' : List Cla}, HdsG X hds' l' → ∀ h3 : Heap, FlyingZ B (X.env :: X.outer) a (Zc cls d) h3 → s'.heap.UpToSlots h3 → wG X.K Wout D l' cls d σ' H' →
        wpAny (model X.prog X.w) X.A (handleBy (.ref a) X.env hds') (SP X pins D) X.xe { s' with heap := h3 } := by
      intro hds' l' hk
      -- the test of a clause
      have test : ∀ {te : Expr} {cs : List Value} {b : Bool} {h3 : Heap} {A0 : Bool} {Q : Bool → Shared → Prop} {E : Value → Shared → Prop}, Cl X te cs → FlyingZ B (X.env :: X.outer) a (Zc cls d) h3 → s'.heap.UpToSlots h3 → PySem.W.exmAny X.K cls cs = some b →
          (∀ h4, FlyingZ B (X.env :: X.outer) a (Zc cls d) h4 → s'.heap.UpToSlots h4 → Q b { s' with heap := h4 }) →
          wpAny (model X.prog X.w) (X.A.mark (some (.ref a))) (eval te X.env) (fun c s₁ => wpAny (model X.prog X.w) (X.A.mark (some (.ref a))) (excMatches (.ref a) c) Q E s₁) E { s' with heap := h3 } := by
        intro te cs b h3 A0 Q E hc fl3 up3 hb1 q
        have J3 : Inv X pins σ' H' { s' with heap := h3 } := J.landed nb fl3.1 (up.trans up3) os ag
        obtain ⟨oe3, vs3, he3, hz3, hd3⟩ := fl3.there
        have S3 := J3.suite he3 hd3 na nL nF
        have LT : PySem.W.Looks (model X.prog X.w) h3 (typeOf (.ref a)) cls := fun A Q E s k q => wpAny_typeOf_ref (k _ _ he3) (by rw [hz3.1]; exact q)
        cases hc with
        | @one x c p hn =>
          obtain ⟨b1, d1, h1, h2, e⟩ := PySem.W.exmAny_cons hb1
          have h2 : some false = some d1 := h2
          cases h2
          rw [Bool.or_false] at e
          subst e
          have LM := PySem.W.exm_one (M := model X.prog X.w) (J3.kIn) LT h1
          have go : wpAny (model X.prog X.w) (X.A.mark (some (.ref a))) (excMatches (.ref a) c) Q E { s' with heap := h3 } := LM.here (q h3 fl3 up3)
          obtain ⟨hg, hdbg, hm | ⟨hm, hv, hnn⟩⟩ := hn
          · exact ld_glob (X := X.suite a ((a, oe3) :: (X.pn ++ pins))) S3 hg hm go hdbg
          · exact ld_blt (X := X.suite a ((a, oe3) :: (X.pn ++ pins))) S3 hg hm hv go hnn hdbg
        | @tup es _ j p hn few =>
          refine wpAny_Tuple (names_run S3 hn ⟨few, ?_⟩)
          have kp : ∀ b o, h3.get? b = some o → (h3.push { cls := .type "tuple", data := .seq cs.toArray }).get? b = some o := fun _ _ z => Heap.get?_push_of_some _ z
          have fl4 : FlyingZ B (X.env :: X.outer) a (Zc cls d) (h3.push { cls := .type "tuple", data := .seq cs.toArray }) := flying_push fl3
          exact (exm_tup (PySem.W.Frag.In.keeps J3.kIn kp) (LT.keeps kp) (Heap.get?_push_size h3 rfl) hb1).here (q _ fl4 (up3.trans (Heap.UpToSlots.of_keeps kp)))
      induction hk with
      | nil =>
        intro h3 fl3 up3 w
        refine wpAny_handleBy_nil ?_
        obtain ⟨k1, k2, k3, oe, vs, T, oT, ts', he, hz, hd, h1, hr⟩ := id fl3
        unfold PySem.passOn
        refine wpAny_bind (wpAny_field he hd h1 ?_)
        rw [if_neg (show ¬ ((Value.ref T == Value.none) = true) from by simp)]
        have fin : wpAny (model X.prog X.w) X.A (setFlight (.ref a) X.env.frame) (fun _ s4 => wpAny (model X.prog X.w) X.A (throw (.ref a) : Sem Flow) (SP X pins D) X.xe s4) X.xe { s' with heap := h3 } := by
          rw [hf]
          refine HandSPX.setFlight_upZ fl3 fun h4 hh4 up4 => wpAny_throw (tk _ _ ?_)
          exact ⟨a, B, sI, pins, σ', H', cls, d, rfl, J, nb, (up.trans up3).trans up4, .inr (.inr (by rw [hs]; exact hh4)), na, os, ag, w⟩
        first
          | exact wpAny_bind (wpAny_pure (wpAny_bind fin))
          | exact wpAny_bind fin
      | @cons te cs ts b₀ suite pos' hds2 l2 hc hsu r ih =>
        intro h3 fl3 up3 w
        obtain ⟨b, hb1, hyes, hno⟩ := w
        refine wpAny_handleBy_cons (codeAny_handlers_test (test (A0 := true) hc fl3 up3 hb1 fun h4 fl4 up4 => ?_)) (by intro q; cases q)
        cases b with
        | true =>
          refine codeAny_handlers_suite ?_
          refine HandSPX.lands_againZ fl4 fun h5 fl5 up5 => ?_
          have J4 : Inv X pins σ' H' { s' with heap := h5 } := J.landed nb fl5.1 ((up.trans up4).trans up5) os ag
          obtain ⟨oe4, vs4, he4, hz4, hd4⟩ := fl5.there
          have S4 := J4.suite he4 hd4 na nL nF
          refine wpAny_mono ((hsu a oe4 cls d (X.pn ++ pins) hz4 ⟨_, hd4⟩).run [] _ _ H' _ S4 (hyes rfl a na)) (fun f s6 hsp => ?_) (fun _ _ z => False.elim z)
          cases f with
          | next =>
            obtain ⟨σ6, H6, S6, q6⟩ := hsp
            exact ⟨_, _, S6.unsuite ok, q6⟩
          | brk =>
            obtain ⟨σ6, H6, S6, q6⟩ := hsp
            exact ⟨_, _, S6.unsuite ok, q6⟩
          | cont =>
            obtain ⟨σ6, H6, S6, q6⟩ := hsp
            exact ⟨_, _, S6.unsuite ok, q6⟩
          | ret u =>
            obtain ⟨v6, σ6, H6, S6, r6, q6⟩ := hsp
            exact ⟨_, _, _, S6.unsuite ok, r6, q6⟩
        | false =>
          show wpAny _ X.A (handleBy (.ref a) X.env hds2) _ _ _
          exact ih h4 fl4 up4 (hno rfl)
      | @as te cs n i ts b₀ suite pos' hds2 l2 hc hi hln hsu r ih =>
        intro h3 fl3 up3 w
        obtain ⟨b, hb1, hyes, hno⟩ := w
        have hloc : Loc X.env.scope n := .inl hln
        refine wpAny_handleBy_cons (codeAny_handlers_test (test (A0 := true) hc fl3 up3 hb1 fun h4 fl4 up4 => ?_)) (by intro q; cases q)
        cases b with
        | true =>
          refine codeAny_handlers_suite_as ?_
          refine HandSPX.lands_againZ fl4 fun h5 fl5 up5 => ?_
          have J4 : Inv X pins σ' H' { s' with heap := h5 } := J.landed nb fl5.1 ((up.trans up4).trans up5) os ag
          obtain ⟨oe4, vs4, he4, hz4, hd4⟩ := fl5.there
          have S4 := J4.suite he4 hd4 na nL nF
          refine store_ok (X := X.suite a ((a, oe4) :: (X.pn ++ pins))) (v := .ref a) S4 hN hi hloc rfl (fun s5 S5 => ?_) (.inr hln)
          refine wpAny_mono ((hsu a oe4 cls d (X.pn ++ pins) hz4 ⟨_, hd4⟩).run [] s5 _ H' _ S5 (hyes rfl a na)) (fun f s6 hsp => ?_) (fun _ _ z => False.elim z)
          have end_ : ∀ {σ6 : L2.St} {H6 : Hp} {Q : Shared → Prop}, Inv (X.suite a ((a, oe4) :: (X.pn ++ pins))) [] σ6 H6 s6 → (∀ s7, Inv X pins (σ6.set i none) H6 s7 → Q s7) →
              wpAny (model X.prog X.w) X.A (do bindName X.env n .none; unbindBehindTheSuite X.env n pos') (fun _ s7 => Q s7) X.xe s6 := fun {σ6 H6 Q} S6 hq => gone_ok (S6.unsuite ok) hN hi hln hq
          cases f with
          | next =>
            obtain ⟨σ6, H6, S6, q6⟩ := hsp
            exact end_ S6 fun s7 J7 => ⟨_, _, J7, q6⟩
          | brk =>
            obtain ⟨σ6, H6, S6, q6⟩ := hsp
            exact end_ S6 fun s7 J7 => ⟨_, _, J7, q6⟩
          | cont =>
            obtain ⟨σ6, H6, S6, q6⟩ := hsp
            exact end_ S6 fun s7 J7 => ⟨_, _, J7, q6⟩
          | ret u =>
            obtain ⟨v6, σ6, H6, S6, r6, q6⟩ := hsp
            exact end_ S6 fun s7 J7 => ⟨_, _, _, J7, r6, q6⟩
        | false =>
          show wpAny _ X.A (handleBy (.ref a) X.env hds2) _ _ _
          exact ih h4 fl4 up4 (hno rfl)
    exact go hh h3 fl3 up3 w
  · cases f with
    | next =>
      obtain ⟨σ', H', J', q⟩ := hsp
      exact wpAny_execs_nil ⟨σ', H', J'.ofTry ok, q⟩
    | brk =>
      obtain ⟨σ', H', J', q⟩ := hsp
      exact ⟨σ', H', J'.ofTry ok, q⟩
    | cont =>
      obtain ⟨σ', H', J', q⟩ := hsp
      exact ⟨σ', H', J'.ofTry ok, q⟩
    | ret u =>
      obtain ⟨v, σ', H', J', r, q⟩ := hsp
      exact ⟨v, σ', H', J'.ofTry ok, r, q⟩
end
section
variable {X : Cx} {e : Expr} {te : TE} {p pos : Pos}
/-- C(e), to be raised: C has an own __init__ of one field -/
theorem pmk_ownI {CX : CXT} {x : Str} {C fI : Addr} {k : Nat} {fd : FuncData} {ps : List Str} {fl : Str} (T : Own X.K C fI) (F1 : FnOk X.prog X.w X.K X.mg X.base CX k fI fd ps (spInit X.K fl)) (hno : PySem.W.findIn X.K (.ref C) fl = some none)
    (hr : Room (k + 1) X.A) (hb : Binds X.K fd ps []) (hx : Passes CX X (fun _ _ _ => False)) (hg : Gl X x) (hm : X.mg x = some (.ref C)) (he : PE X e te)
    (hdb : (x == ("__debug__" : Str)) = false := by decide) (hs : starEach [e] X.env = (false, eval e X.env) :: starEach [] X.env := by rfl) :
    PMk X (.Call (.Name x p) [e] [] pos) (fun σ H Q => te σ H fun y H1 => ∀ d, H1 d = none → Q (.ref C) (some d) (upd H1 d (.xd [(fl, y)]))) := by
  intro pins s σ H Q I h
  obtain ⟨B, newId, initId, bmB, F, nm, q, N, bs, bm, sn, sub, ab, col, dd, k0, k1, k2, k3, k5, hC, hB⟩ := T.made
  refine wpAny_Call_Name_kw (ld_glob I hg hm ?_ hdb)
  refine PySem.W.callWith_K (h₀ := X.base) I.ok.mod.kin T.kC ?_ hs (by rfl)
  rw [hs]
  show wpAny _ _ (spliced ((false, eval e X.env) :: backTo pos (starEach [] X.env))) _ _ s
  refine Calls.spliced_cons (thn (he.run pins s σ H _ I h) fun u s1 ⟨v, H1, I1, r1, q1⟩ => ?_)
  refine Calls.spliced_nil ⟨I1.kIn, ?_⟩
  show wpAny _ _ (call (.ref C) [u]) _ _ _
  obtain ⟨hp, g, dr, tk, os⟩ := s1
  have hsz : hp.objs.size ≤ hp.objs.size + 1 := Nat.le_succ _
  have hn : H1 (hp.objs.size + 1) = none := I1.hok.fresh hsz
  have kk : ∀ b o, hp.get? b = some o → ((hp.push (PySem.W.kdv_tup [u])).push (excO C hp.objs.size)).get? b = some o := fun b o e => Heap.get?_push_of_some _ (Heap.get?_push_of_some _ e)
  have hget : ((hp.push (PySem.W.kdv_tup [u])).push (excO C hp.objs.size)).get? (hp.objs.size + 1) = some (excO C hp.objs.size) := by heap_get
  have I2 : Inv X pins σ (upd H1 (hp.objs.size + 1) (exo (hp.objs.size + 1) C none)) ⟨(hp.push (PySem.W.kdv_tup [u])).push (excO C hp.objs.size), g, dr, tk, os⟩ :=
    I1.laid (t' := tk) (a := hp.objs.size + 1) (o := exo (hp.objs.size + 1) C none) (h' := (hp.push (PySem.W.kdv_tup [u])).push (excO C hp.objs.size)) kk hsz (exo_ok hget)
  have r2 : Vals [V.ref (hp.objs.size + 1), v] [Value.ref (hp.objs.size + 1), u] := .cons rfl (.cons r1 .nil)
  have hq : spInit X.K fl [V.ref (hp.objs.size + 1), v] (upd H1 (hp.objs.size + 1) (exo (hp.objs.size + 1) C none)) (fun w G => w = .non ∧ ∃ d, G (hp.objs.size + 1) = some (exo (hp.objs.size + 1) C (some d)) ∧ G d = some (exd d [(fl, v)]) ∧ H1 d = none ∧ Q (.ref C) (some d) (upd (del G (hp.objs.size + 1)) d (.xd [(fl, v)]))) (fun _ _ _ => False) := by
    refine ⟨_, C, fI, v, rfl, T, hno, upd_same, fun dx nd ne => ⟨rfl, dx, upd_same, ?_, ?_, ?_⟩⟩
    · rw [upd_ne ne, upd_same]
    · rw [upd_ne ne] at nd
      exact nd
    · rw [upd_ne ne] at nd
      have e1 : upd (del (upd (upd (upd H1 (hp.objs.size + 1) (exo (hp.objs.size + 1) C none)) dx (exd dx [(fl, v)])) (hp.objs.size + 1) (exo (hp.objs.size + 1) C (some dx))) (hp.objs.size + 1)) dx (.xd [(fl, v)]) = upd H1 dx (.xd [(fl, v)]) := by
        funext b
        by_cases hb2 : b = dx
        · rw [hb2, upd_same, upd_same]
        · rw [upd_ne hb2, upd_ne hb2]
          by_cases hb : b = hp.objs.size + 1
          · rw [hb, del_same, hn]
          · rw [del_ne hb, upd_ne hb, upd_ne hb2, upd_ne hb]
      rw [e1]
      exact q1 dx nd
  have hl : ([Value.ref (hp.objs.size + 1), u] ++ []).length = ps.length := by
    have e := r2.length
    rw [F1.len _ _ _ _ hq] at e
    exact e.symm
  have bd := hb _ [Value.ref (hp.objs.size + 1), u] I2.kIn hl
  rw [List.append_nil] at bd
  refine wpAny_call (makes F hB (I1.kIn _ _ hC) (PySem.W.looks_findIn I1.kIn T.iC) (fun self => PySem.W.bind_fn I1.kIn self T.tI) (by show 1 ≤ sizeLine; rw [sizeLine_eq]; omega)
    (codeAny_mono (F1.run _ X.stack _ _ ⟨[Value.ref (hp.objs.size + 1), u], []⟩ [Value.ref (hp.objs.size + 1), u] _ _ (fun _ _ _ => False) (hr.make C [u] []) (I2.env0.make C [u] []) bd r2 hq) fun r s' hq' => ?_))
  cases r with
  | error er => exact hx pins σ _ _ er s' I2 hq'
  | ok fl =>
    cases fl with
    | ret u' =>
      obtain ⟨w', H2, os2, bare2, un2, hok2, rv, ev, d, ea, ed, hd1, q2⟩ := hq'
      subst ev
      obtain ⟨h2, g2, d2, t2, os'⟩ := s'
      exact ⟨rv, mk_end (raises_own T.exC T.tyC) I1 hsz kk un2 hok2 os2 bare2 ea ed hd1 q2⟩
    | next => exact False.elim hq'
    | brk => exact False.elim hq'
    | cont => exact False.elim hq'
end
end Xc
set_option Elab.async false
set_option linter.all false
set_option maxRecDepth 100000
set_option maxHeartbeats 4000000
/-! Xf: repr of plain values, str of an error whose class has an own __str__. -/
namespace Xc
open PySem PySem.Spec PySem.Calls PyProof.Rows PySem.HandSPX L2 Gd
/-- a value and its repr -/
inductive Sh (K : PySem.W.Frag) (H : Hp) : V → Str → Prop
  | non : Sh K H .non "None"
  | bl (b : Bool) : Sh K H (.bl b) (if b then "True" else "False")
  | int (i : Int) (few : i.natAbs.log2 < 1920) : Sh K H (.int i) (toString i)
  | str (x : Str) (few : (reprText x).length ≤ sizeLine) : Sh K H (.str x) (reprText x)
  | dat {a : Addr} {d : PyData} (h : Dp K H (.ref a) d) (h1 : d.showable = true) (h2 : d.hasDict = false) (h3 : d.depth < 60) (h4 : d.shown.length ≤ sizeLine) : Sh K H (.ref a) d.shown
  | emp {a : Addr} (h : H a = some (.dK [])) : Sh K H (.ref a) (PyData.dict []).shown
def rSh (K : PySem.W.Frag) : List V → Hp → VK → Prop := fun vs H Q => ∃ v s, vs = [v] ∧ Sh K H v s ∧ Q (.str s) H
theorem call_sh {X : Cx} (hgd : X.A.guards = some []) (hu : X.A.units + 64 < cLine) : CallR X (.builtin "repr") (rSh X.K) := by
  intro pins s σ H vs us Q I r h
  obtain ⟨v, z, rfl, hs, q⟩ := h
  obtain ⟨u, rfl, ru⟩ := vals1 r
  cases hs with
  | non =>
    cases (show u = Value.none from ru)
    exact PySem.P.repr_of_none ⟨.str _, H, I.tok _, ⟨_, rfl⟩, q⟩
  | bl b =>
    cases (show u = Value.bool b from ru)
    exact PySem.P.repr_of_bool ⟨.str _, H, I.tok _, ⟨_, rfl⟩, q⟩
  | int i few =>
    obtain ⟨t, rfl⟩ := (show ∃ t, u = Value.int i t from ru)
    exact PySem.P.repr_of_int few ⟨.str _, H, I.tok _, ⟨_, rfl⟩, q⟩
  | str x few =>
    obtain ⟨t, rfl⟩ := (show ∃ t, u = Value.str x t from ru)
    exact PySem.P.repr_of_str ⟨.str _, H, I.tok _, ⟨_, rfl⟩, q⟩ few
  | @dat a d hd h1 h2 h3 h4 =>
    cases (show u = Value.ref a from ru)
    obtain ⟨as, hR⟩ := Dp.reads I d (.ref a) (.ref a) hd rfl
    refine repr_of_reads' hR h1 (PyData.noDict_hsm h2) hgd (by omega) (fun _ _ z => z) (fun h' u tk hk => ?_) h4
    exact ⟨.str d.shown, H, I.kept (t' := tk) hk, ⟨u, rfl⟩, q⟩
  | @emp a ha =>
    cases (show u = Value.ref a from ru)
    obtain ⟨_, hsm, vs, hkv, o, es, ep, ho, hx, hd, _, hp, _⟩ := dk_of I.hok ha
    cases hkv
    have he : es.toList = [] := by
      generalize es.toList = l at hp
      cases hp
      rfl
    have hR : Reads s.heap (.ref a) (.dict []) (a :: ([] : List Addr) ++ []) := Reads.dict ho hx.1 hd (by rw [he]; exact .nil) (by rw [he]; exact .nil)
    refine repr_of_reads' hR (by decide) (fun _ => ?_) hgd (Nat.lt_of_le_of_lt (Nat.add_le_add_left (show (PyData.dict []).depth + 1 ≤ 64 by decide +kernel) _) hu) (fun _ _ z => z) (fun h' u tk hk => ?_) (by decide +kernel)
    · intro z
      have z2 : sysModules = a := by simpa using z
      rw [← z2] at hsm
      simp at hsm
    · exact ⟨.str _, H, I.kept (t' := tk) hk, ⟨u, rfl⟩, q⟩
/-! ### str(e), by an own __str__ -/
/-- what such a __str__ answers: the repr of the only field -/
def spStr (K : PySem.W.Frag) (fl : Str) : Sp := fun vs H Q _ => ∃ a C v s, vs = [.ref a] ∧ Held H a C (some (fl, v)) ∧ XfC K C ∧ PySem.W.findIn K (.ref C) fl = some none ∧ Sh K H v s ∧ Q (.str s) H
def rStr (K : PySem.W.Frag) (f : Addr) (sp : Sp) : List V → Hp → VK → Prop := fun vs H Q => ∃ a C fl, vs = [.ref a] ∧ Held H a C fl ∧ PySem.W.findIn K (.ref C) "__str__" = some (some (.ref f)) ∧ sp [.ref a] H (fun v G => ∃ x, v = .str x ∧ Q v G) (fun _ _ _ => False)
theorem call_str {X : Cx} {CX : CXT} {k : Nat} {f : Addr} {fd : FuncData} {ps : List Str} {sp : Sp} (F : FnG X.prog X.w X.K X.mg X.base CX k f fd ps sp) (hr : Room (k + 2) X.A) (hgd : X.A.guards = some []) (hf : PySem.W.isFn X.K (.ref f) = true) (hb : Binds X.K fd ps [])
    (hx : Passes CX X (fun _ _ _ => False)) : CallR X (.type "str") (rStr X.K f sp) := by
  intro pins s σ H vs us Q I r h
  obtain ⟨a, C, fl, rfl, hh, hs, q⟩ := h
  obtain ⟨u, rfl, ru⟩ := vals1 r
  cases (show u = Value.ref a from ru)
  obtain ⟨ox, od, J, _⟩ := held_at I hh
  have hl : ([Value.ref a] ++ []).length = ps.length := by
    have e := F.lenG _ _ _ _ q
    rw [List.append_nil]
    exact e
  have bd := hb s [Value.ref a] I.kIn hl
  rw [List.append_nil] at bd
  have r2 : Room k X.A.in1.in1 := (hr.in1).in1
  refine PySem.W.kso_call (by have := r2.un; omega) I.kIn J hs hf ?_
  refine wpAny_call (codeAny_mono (F.runG X.A.in1.in1 X.stack s H ⟨[.ref a], []⟩ [.ref a] [.ref a] _ _ r2 hgd (I.env0.in1).in1 bd (.cons rfl .nil) q) fun res s2 h3 => ?_)
  cases res with
  | error e => exact hx pins σ H s e s2 I h3
  | ok fl =>
    cases fl with
    | ret u =>
      obtain ⟨v, H2, I2, rv, x, ev, q2⟩ := I.after h3
      subst ev
      obtain ⟨t, rfl⟩ := (show ∃ t, u = Value.str x t from rv)
      exact ⟨.str x, H2, I2, ⟨t, rfl⟩, q2⟩
    | next => exact False.elim h3
    | brk => exact False.elim h3
    | cont => exact False.elim h3
end Xc
set_option Elab.async false
set_option linter.all false
set_option maxRecDepth 100000
set_option maxHeartbeats 2000000
/-! Dn: dicts whose keys are tuples of data, nested, all of whose values are True: d[k] = True, sorted(d). -/
namespace Gd
open PySem PySem.Spec PyProof.Rows L2 PySem.SeqAt SrtO
mutual
def nk : PyData → NestedKey
  | .int i => .num i
  | .str x => .text x
  | .tuple ds => .tup (nks ds)
  | _ => .none
def nks : List PyData → List NestedKey
  | [] => []
  | d :: ds => nk d :: nks ds
end
mutual
theorem nk_depth : ∀ d : PyData, (nk d).depth ≤ d.depth
  | .int _ => by rw [nk, NestedKey.depth]; exact Nat.zero_le _
  | .str _ => by rw [nk, NestedKey.depth]; exact Nat.zero_le _
  | .tuple ds => by
    rw [nk, NestedKey.depth, PyData.depth]
    have := nks_depth ds
    omega
  | .none => by simp [nk, NestedKey.depth]
  | .bool _ => by simp [nk, NestedKey.depth]
  | .list _ => by simp [nk, NestedKey.depth]
  | .dict _ => by simp [nk, NestedKey.depth]
theorem nks_depth : ∀ ds : List PyData, NestedKey.depthAll (nks ds) ≤ PyData.depthAll ds
  | [] => by rw [nks, NestedKey.depthAll]; exact Nat.zero_le _
  | d :: ds => by
    rw [nks, NestedKey.depthAll, PyData.depthAll]
    have h1 := nk_depth d
    have h2 := nks_depth ds
    exact Nat.max_le.mpr ⟨Nat.le_trans h1 (Nat.le_max_left _ _), Nat.le_trans h2 (Nat.le_max_right _ _)⟩
end
mutual
theorem nk_is {h : Heap} : ∀ (d : PyData) (v : Value) (as : List Addr), tOnly d = true → Reads h v d as → NestedIs h (nk d) v
  | .int _, v, as, _, r => by
    cases r
    rw [nk]
    exact .int _ _
  | .str _, v, as, _, r => by
    cases r
    rw [nk]
    exact .text _ _
  | .tuple ds, v, as, t, r => by
    rw [tOnly] at t
    cases r with
    | tuple ho hc hd hr =>
      rw [nk]
      exact .tup ho hc hd (nks_are ds _ _ t hr)
  | .none, _, _, t, _ => by simp [tOnly] at t
  | .bool _, _, _, t, _ => by simp [tOnly] at t
  | .list _, _, _, t, _ => by simp [tOnly] at t
  | .dict _, _, _, t, _ => by simp [tOnly] at t
theorem nks_are {h : Heap} : ∀ (ds : List PyData) (vs : List Value) (as : List Addr), tOnlys ds = true → ReadsAll h vs ds as → NestedAll h (nks ds) vs
  | [], vs, as, _, r => by
    cases r
    rw [nks]
    exact .nil
  | d :: ds, vs, as, t, r => by
    rw [tOnlys, Bool.and_eq_true] at t
    cases r with
    | cons r rs =>
      rw [nks]
      exact .cons (nk_is d _ _ t.1 r) (nks_are ds _ _ t.2 rs)
end
abbrev NX := List (PyData × Addr)
def rowN (w : World) (p : PyData × Addr) : DictEntry := ⟨(nk p.1).hash w, .ref p.2, .bool true⟩
structure DictN0 (w : World) (h : Heap) (d : Addr) (xs : NX) : Prop where
  ex : ∃ (o : Obj) (es : Array DictEntry) (ep : Nat), h.get? d = some o ∧ o.ExactDict ∧ o.data = .dict es ep ∧ es.toList = xs.map (rowN w)
  nd : (xs.map fun p => nk p.1).Nodup
  lo : (d == sysModules) = false
  few : xs.length ≤ sizeLine
def DictNO (w : World) (d : Addr) (xs : NX) : HO := .ext fun h => DictN0 w h d xs
theorem dictN_new {P : Program} {w : World} {H : Hp} {h : Heap} {a : Addr} {xs : NX} (R : DictN0 w h a xs) : ObjOk P w H h a (DictNO w a xs) := by
  obtain ⟨o, es, ep, ho, r⟩ := R.ex
  refine ⟨R, ⟨o, ho⟩, fun h1 h2 p k => ?_⟩
  obtain ⟨o', es', ep', ho', r'⟩ := DictN0.ex p
  exact ⟨⟨o', es', ep', k o' ho', r'⟩, p.nd, p.lo, p.few⟩
/-- such a dict, or an empty one -/
def IsDn (w : World) (H : Hp) (a : Addr) (xs : NX) : Prop := H a = some (DictNO w a xs) ∨ (xs = [] ∧ H a = some (.dK []))
theorem IsDn.ok {P : Program} {w : World} {H : Hp} {h : Heap} {a : Addr} {xs : NX} (x : HOk P w H h) (e : IsDn w H a xs) : DictN0 w h a xs := by
  rcases e with e | ⟨rfl, e⟩
  · exact (x a _ e).1
  · obtain ⟨_, lo, vs, kv, o, es, ep, ho, hx, hd, hks, he, hn⟩ := x a _ e
    cases kv
    refine ⟨⟨o, es, ep, ho, hx, hd, ?_⟩, List.nodup_nil, lo, Nat.zero_le _⟩
    generalize es.toList = l at he
    cases he
    rfl
/-- the keys, as they stand in the heap -/
structure NKey (K : PySem.W.Frag) (H : Hp) (p : PyData × Addr) : Prop where
  dp : Dp K H (.ref p.2) p.1
  on : tOnly p.1 = true
  dq : p.1.depth ≤ 8
def putN (xs : NX) (d : PyData) (b : Addr) : NX := if (xs.any fun p => decide (nk p.1 = nk d)) = true then xs else xs ++ [(d, b)]
theorem at_none {xs : NX} {k : NestedKey} (h : (xs.any fun p => decide (nk p.1 = k)) = false) : atKey (xs.map fun p => (nk p.1, p.2, Value.bool true)) k = none := by
  induction xs with
  | nil => rfl
  | cons p xs ih =>
    rw [List.any_cons, Bool.or_eq_false_iff, decide_eq_false_iff_not] at h
    have z := ih h.2
    unfold atKey at z ⊢
    simpa [List.find?_cons, h.1] using z
theorem at_some {xs : NX} {k : NestedKey} (h : (xs.any fun p => decide (nk p.1 = k)) = true) : ∃ b, atKey (xs.map fun p => (nk p.1, p.2, Value.bool true)) k = some (b, .bool true) := by
  induction xs with
  | nil => cases h
  | cons p xs ih =>
    by_cases e : nk p.1 = k
    · refine ⟨p.2, ?_⟩
      simp [atKey, List.find?_cons, e]
    · rw [List.any_cons, decide_eq_false e, Bool.false_or] at h
      obtain ⟨b, z⟩ := ih h
      refine ⟨b, ?_⟩
      unfold atKey at z ⊢
      simpa [List.find?_cons, e] using z
theorem putAt_same (xs : NX) (k : NestedKey) : (xs.map fun p => (nk p.1, p.2, Value.bool true)).map (putAt k (.bool true)) = xs.map fun p => (nk p.1, p.2, Value.bool true) := by
  rw [List.map_map]
  refine List.map_congr_left fun p _ => ?_
  show (if nk p.1 = k then (nk p.1, p.2, Value.bool true) else (nk p.1, p.2, Value.bool true)) = _
  split <;> rfl
section
variable {X : Cx}
theorem NKey.is {pins : List (Addr × Obj)} {s : Shared} {σ : L2.St} {H : Hp} (I : Inv X pins σ H s) {p : PyData × Addr} (h : NKey X.K H p) : (nestedKind X.prog X.w).is s.heap (nk p.1) p.2 := by
  obtain ⟨as, r⟩ := Dp.reads I _ _ (Value.ref p.2) h.dp rfl
  exact ⟨nk_is _ _ _ h.on r, Nat.le_trans (nk_depth _) h.dq⟩
theorem dn_of {pins : List (Addr × Obj)} {s : Shared} {σ : L2.St} {H : Hp} (I : Inv X pins σ H s) {a : Addr} {xs : NX} (e : IsDn X.w H a xs) (hk : ∀ p ∈ xs, NKey X.K H p) : s.heap.DictOfH (nestedKind X.prog X.w) a (xs.map fun p => (nk p.1, p.2, Value.bool true)) := by
  have R := e.ok I.hok
  obtain ⟨o, es, ep, ho, hx, hd, he⟩ := R.ex
  refine ⟨o, es, ep, ho, hx, hd, ?_, fun x hx => ?_, ?_⟩
  · rw [he, List.map_map]
    rfl
  · obtain ⟨p, hp, rfl⟩ := List.mem_map.mp hx
    exact (hk p hp).is I
  · rw [List.map_map]
    exact R.nd
theorem dn_put {A : Around} {E : Value → Shared → Prop} {pins : List (Addr × Obj)} {s : Shared} {σ : L2.St} {H : Hp} {a b : Addr} {xs : NX} {d : PyData} {Q : Unit → Shared → Prop} (hu : A.units + 64 < cLine) (I : Inv X pins σ H s) (e : IsDn X.w H a xs) (hk : ∀ p ∈ xs, NKey X.K H p) (hd : NKey X.K H (d, b)) (hz : xs.length < sizeLine)
    (h : ∀ s', Inv X pins σ (upd H a (DictNO X.w a (putN xs d b))) s' → Q () s') : wpAny (model X.prog X.w) A (setItem (.ref a) (.ref b) (.bool true)) Q E s := by
  have R := e.ok I.hok
  refine wpAny_setItem_heap (hsz := by rw [List.length_map]; omega) (knd := nestedKind X.prog X.w) (show A.units + 1 + 8 < cLine by omega) (hd.is I) (dn_of I e hk) fun h' dd' hs => h _ ?_
  obtain ⟨q, es, ep, hq, h2, h3, h4, _, h5⟩ := dd'
  have mu : Mut (H a) := by
    rcases e with e | ⟨_, e⟩ <;> rw [e] <;> exact True.intro
  refine d_write I mu hs ⟨q, hq⟩ (dictN_new ?_)
  unfold putN
  by_cases c : (xs.any fun p => decide (nk p.1 = nk d)) = true
  · rw [if_pos c]
    obtain ⟨b', z⟩ := at_some c
    rw [storedH_old z, putAt_same] at h4
    refine ⟨⟨q, es, ep, hq, h2, h3, ?_⟩, R.nd, R.lo, R.few⟩
    rw [h4, List.map_map]
    rfl
  · rw [if_neg c]
    have c : (xs.any fun p => decide (nk p.1 = nk d)) = false := by simpa using c
    have z := at_none c
    rw [storedH_new z] at h4 h5
    refine ⟨⟨q, es, ep, hq, h2, h3, ?_⟩, ?_, R.lo, by rw [List.length_append]; exact hz⟩
    · rw [h4, List.map_append, List.map_append, List.map_map]
      rfl
    · rw [List.map_append, List.map_map] at h5
      rw [List.map_append]
      exact h5
def sDPutN (K : PySem.W.Frag) (w : World) (td ty tv : TE) : TS := fun D σ H => tv σ H fun v H1 => td σ H1 fun x H2 => ty σ H2 fun y H3 => ∃ (a b : Addr) (xs : NX) (d : PyData), v = .bl true ∧ x = .ref a ∧ y = .ref b ∧ IsDn w H3 a xs ∧ (∀ p ∈ xs, NKey K H3 p) ∧ NKey K H3 (d, b) ∧ xs.length < sizeLine ∧ D.nx σ (upd H3 a (DictNO w a (putN xs d b)))
theorem ps_dputN {o i value : Expr} {td ty tv : TE} {pos pos' : Pos} (hu : X.A.units + 64 < cLine) (ho : PE X o td) (hi : PE X i ty) (hv : PE X value tv) (hs : swapsWith value (some (.Subscript o i pos')) pos.line X.env = pure false := by rfl) :
    PS X (.Assign [.Subscript o i pos'] value pos) (sDPutN X.K X.w td ty tv) := by
  refine ⟨fun pins s σ H D I h => ?_⟩
  refine wpAny_Assign_Subscript (thn (hv.run pins s σ H _ I h) fun r s1 ⟨v, H1, I1, rv, q1⟩ => thn (ho.run pins s1 σ H1 _ I1 q1) fun u s2 ⟨x, H2, I2, rx, q2⟩ => thn (hi.run pins s2 σ H2 _ I2 q2) fun iv s3 ⟨y, H3, I3, ry, a, b, xs, d, ev, ex, ey, e, hk, hd, hz, q3⟩ => ?_) hs
  subst ev ex ey
  cases (show u = Value.ref a from rx)
  cases (show iv = Value.ref b from ry)
  cases (show r = Value.bool true from rv)
  exact dn_put hu I3 e hk hd hz fun s4 I4 => ⟨σ, _, I4, q3⟩
/-- sorted(d), d such a dict: its keys -/
def rSortDn (K : PySem.W.Frag) (w : World) : List V → Hp → VK → Prop := fun vs H Q => ∃ (a : Addr) (xs : NX) (k : V → PyData) (t : Bool), vs = [V.ref a] ∧ IsDn w H a xs ∧ Swo (ltK k) ∧ (∀ p ∈ xs, SrtX K H t k (.ref p.2)) ∧ (∀ p ∈ xs, ∀ q ∈ xs, okD (k (.ref p.2)) (k (.ref q.2)) = true) ∧
  ∀ ys p, Srtd (ltK k) ys → Stb (ltK k) ys (xs.map fun p => V.ref p.2) → H p = none → Q (.ref p) (upd H p (.lst ys))
theorem call_sortDn (hcalm : X.calm = true) (hu : X.A.units + 100 < cLine) : CallR X (.builtin "sorted") (rSortDn X.K X.w) := by
  intro pins s σ H vs us Q I r h
  obtain ⟨a, nx, k, t, rfl, hs, O, hx, ok, q⟩ := h
  obtain ⟨u, rfl, ru⟩ := vals1 r
  obtain rfl : u = Value.ref a := ru
  have R := hs.ok I.hok
  obtain ⟨o, es, ep, ho, hex, hdt, he⟩ := R.ex
  have lE : es.size = nx.length := by
    rw [← Array.length_toList, he, List.length_map]
  have len : es.size ≤ sizeLine := by rw [lE]; exact R.few
  refine Calls.call_function_entry PyProof.Rows.kind_sorted PyProof.Rows.plain_sorted PyProof.Rows.entry_sorted (PyProof.Rows.args_sorted1 _) ?_
  unfold Builtin.«sorted»
  refine wpAny_bind (m := checkCount "sorted" 1 1 _) (wpAny_pure ?_)
  refine wpAny_bind (PySem.W.kdu_collect (A := X.A.in1) (kdl_raw (prog := X.prog) (w := X.w) R.lo hex hdt) (I.ok.hd hcalm) ho len fun h' tk acc hk hacc => ?_)
  have ea : acc.toList = nx.map fun p => Value.ref p.2 := by
    have hl : acc.toList.length = nx.length := by rw [Array.length_toList, hacc.1]; exact lE
    apply List.ext_getElem?
    intro j
    rw [List.getElem?_map]
    cases hj : acc.toList[j]? with
    | none =>
      have h1 := List.getElem?_eq_none_iff.mp hj
      rw [List.getElem?_eq_none (by omega)]
      rfl
    | some v =>
      obtain ⟨en, hen, hv⟩ := hacc.2 j v (by rw [← Array.getElem?_toList]; exact hj)
      rw [← Array.getElem?_toList, he, List.getElem?_map] at hen
      cases hb : nx[j]? with
      | none => rw [hb] at hen; cases hen
      | some p =>
        rw [hb] at hen
        cases hen
        rw [hv]
        rfl
  have I1 : Inv X pins σ H { s with heap := h', toks := tk } := I.kept hk
  generalize hits : acc.toList = its at ea
  have Ov : Swo fun v u : Value => ltD (k (backV v)) (k (backV u)) := ⟨fun x y => O.1 _ _, fun x y z => O.2 _ _ _⟩
  have e1 : (nx.map fun p => V.ref p.2) = its.map backV := by
    rw [ea, List.map_map]
    rfl
  have e2 : ∀ u ∈ its, ∃ a, u = Value.ref a := fun u hu => by
    rw [ea] at hu
    obtain ⟨p, _, rfl⟩ := List.mem_map.mp hu
    exact ⟨_, rfl⟩
  have e3 : ∀ v ∈ its, IsDt s.heap t v (k (backV v)) ∧ (k (backV v)).depth ≤ 60 := fun v hv => by
    rw [ea] at hv
    obtain ⟨p, hp, rfl⟩ := List.mem_map.mp hv
    have z := hx p hp
    obtain ⟨as, r⟩ := Dp.reads I _ _ (Value.ref p.2) z.dp rfl
    exact ⟨⟨⟨as, r⟩, z.on, z.hd⟩, z.dq⟩
  have e4 : ∀ v ∈ its, ∀ u ∈ its, okD (k (backV v)) (k (backV u)) = true := fun v hv u hu => by
    rw [ea] at hv hu
    obtain ⟨p, hp, rfl⟩ := List.mem_map.mp hv
    obtain ⟨p', hp', rfl⟩ := List.mem_map.mp hu
    exact ok p hp p' hp'
  have keepD : ∀ {h' : Heap} {v : Value} {d : PyData}, (∀ b o, s.heap.get? b = some o → h'.get? b = some o) → IsDt s.heap t v d → IsDt h' t v d := fun kp z => by
    obtain ⟨⟨as, r⟩, h2, h3⟩ := z
    exact ⟨⟨as, Reads.keeps kp r⟩, h2, h3⟩
  have len2 : its.length ≤ sizeLine := by rw [ea, List.length_map]; exact R.few
  refine wpAny_bind (wpAny_newList ?_ (by exact len2))
  have hoL : (h'.push (seqObj "list" its.toArray 0)).get? h'.objs.size = some (seqObj "list" its.toArray 0) := Heap.get?_push_size _ rfl
  show wpAny _ _ _ _ _ { s with heap := h'.push (seqObj "list" its.toArray 0), toks := tk }
  refine wpAny_bind (wpAny_holding (wpAny_call_entry slot_list_sort ⟨_, hoL, rfl⟩ entry_list_sort (list_sort_ord Ov hoL len2 (fun h2 => ?_) fun out h1 h2 => ⟨_, rfl, ?_⟩) (args_list_sort _)))
  · refine dts_sortable (t := t) (by omega) (by show X.A.units + 1 + 1 + 64 < cLine; omega) (fun v hm => keepD (fun b o e => Heap.get?_push_of_some _ (hk b o e)) (e3 v hm).1) (fun v hm => (e3 v hm).2) e4 fun o e => ?_
    have e' : some o = some (seqObj "list" its.toArray 0) := e.symm.trans hoL
    cases e'
    intro c
    exact absurd (Value.type.inj c) (by decide)
  · obtain ⟨c, hcc⟩ := sortedHeap_at (vs := its) (out := out.toArray) hoL
    have keep : ∀ b u, h'.get? b = some u → (sortedHeap (h'.push (seqObj "list" its.toArray 0)) h'.objs.size its out.toArray).get? b = some u := by
      intro b u e
      have lt := Heap.lt_size e
      rw [sortedHeap_old (Nat.ne_of_lt lt) (by rw [size_push']; exact Nat.lt_succ_of_lt lt)]
      exact Heap.get?_push_of_some _ e
    have h3 : ∀ u ∈ out, ∃ a, u = Value.ref a := fun u hu => e2 u (h2.perm.mem_iff.mp hu)
    have hb : Stb (ltK k) (out.map backV) (nx.map fun p => V.ref p.2) := by
      rw [e1]
      exact Stb.map O backV h2
    refine wpAny_pure ⟨_, rfl, .ref h'.objs.size, upd H h'.objs.size (.lst (out.map backV)), I1.laid (t' := tk) keep (Nat.le_refl _) ⟨?_, out, c, vals_back h3, hcc⟩, rfl, q _ _ (srtd_map h1) hb (I1.hok.fresh (Nat.le_refl _))⟩
    rw [hb.len, List.length_map]
    exact R.few
end
end Gd
set_option Elab.async false
set_option linter.all false
set_option maxRecDepth 100000
set_option maxHeartbeats 1000000
/-! Nd: dicts whose keys are tuples of data, nested, with any values: get, in, put, len. -/
namespace Gd
open PySem PySem.Spec PyProof.Rows L2 PySem.SeqAt SrtO
abbrev NE := List (NestedKey × Addr × V)
def NRow (w : World) (p : NestedKey × Addr × V) (e : DictEntry) : Prop := ∃ v, e = ⟨p.1.hash w, .ref p.2.1, v⟩ ∧ RelV p.2.2 v
structure NDic (w : World) (h : Heap) (a : Addr) (xs : NE) : Prop where
  ex : ∃ (o : Obj) (es : Array DictEntry) (ep : Nat), h.get? a = some o ∧ o.ExactDict ∧ o.data = .dict es ep ∧ Paired (NRow w) xs es.toList
  nd : (xs.map (·.1)).Nodup
  lo : (a == sysModules) = false
  few : xs.length ≤ sizeLine
def NDicO (w : World) (a : Addr) (xs : NE) : HO := .ext fun h => NDic w h a xs
theorem nDic_new {P : Program} {w : World} {H : Hp} {h : Heap} {a : Addr} {xs : NE} (R : NDic w h a xs) : ObjOk P w H h a (NDicO w a xs) := by
  obtain ⟨o, es, ep, ho, r⟩ := R.ex
  refine ⟨R, ⟨o, ho⟩, fun h1 h2 p k => ?_⟩
  obtain ⟨o', es', ep', ho', r'⟩ := NDic.ex p
  exact ⟨⟨o', es', ep', k o' ho', r'⟩, p.nd, p.lo, p.few⟩
/-- such a dict, or an empty one -/
def IsN (w : World) (H : Hp) (a : Addr) (xs : NE) : Prop := H a = some (NDicO w a xs) ∨ (xs = [] ∧ H a = some (.dK []))
theorem IsN.ok {P : Program} {w : World} {H : Hp} {h : Heap} {a : Addr} {xs : NE} (x : HOk P w H h) (e : IsN w H a xs) : NDic w h a xs := by
  rcases e with e | ⟨rfl, e⟩
  · exact (x a _ e).1
  · obtain ⟨_, lo, vs, kv, o, es, ep, ho, hx, hd, hks, he, hn⟩ := x a _ e
    cases kv
    refine ⟨⟨o, es, ep, ho, hx, hd, ?_⟩, List.nodup_nil, lo, Nat.zero_le _⟩
    generalize es.toList = l at he
    cases he
    exact .nil
/-- .. or a locked empty one -/
def IsR (w : World) (H : Hp) (a : Addr) (xs : NE) : Prop := IsN w H a xs ∨ (xs = [] ∧ ∃ o, H a = some (.frz o (.dK []))) ∨ ∃ o, H a = some (.frz o (NDicO w a xs))
theorem IsR.ok {P : Program} {w : World} {H : Hp} {h : Heap} {a : Addr} {xs : NE} (x : HOk P w H h) (e : IsR w H a xs) : NDic w h a xs := by
  rcases e with e | ⟨rfl, o, e⟩ | ⟨o, e⟩
  · exact e.ok x
  · obtain ⟨_, _, lo, vs, kv, o, es, ep, ho, hx, hd, hks, he, hn⟩ := x a _ e
    cases kv
    refine ⟨⟨o, es, ep, ho, hx, hd, ?_⟩, List.nodup_nil, lo, Nat.zero_le _⟩
    generalize es.toList = l at he
    cases he
    exact .nil
  · obtain ⟨_, z⟩ := x a _ e
    exact z.1
theorem IsR.rd {w : World} {H : Hp} {a : Addr} {xs : NE} (h : Rd H a (NDicO w a xs)) : IsR w H a xs := h.elim (fun z => .inl (.inl z)) fun ⟨o, z⟩ => .inr (.inr ⟨o, z⟩)
abbrev NV := List (NestedKey × Addr × Value)
abbrev NRel : NE → NV → Prop := Paired fun p q => p.1 = q.1 ∧ p.2.1 = q.2.1 ∧ RelV p.2.2 q.2.2
theorem nrow_vals {w : World} : ∀ {xs : NE} {es : List DictEntry}, Paired (NRow w) xs es → ∃ vs : NV, NRel xs vs ∧ es = vs.map fun x => ⟨x.1.hash w, .ref x.2.1, x.2.2⟩
  | _, _, .nil => ⟨[], .nil, rfl⟩
  | _, _, .cons (a := p) ⟨v, e, r⟩ t => by
    obtain ⟨vs, h1, h2⟩ := nrow_vals t
    exact ⟨(p.1, p.2.1, v) :: vs, .cons ⟨rfl, rfl, r⟩ h1, by rw [e, h2]; rfl⟩
theorem vals_nrow {w : World} : ∀ {xs : NE} {vs : NV}, NRel xs vs → Paired (NRow w) xs (vs.map fun x => ⟨x.1.hash w, .ref x.2.1, x.2.2⟩)
  | _, _, .nil => .nil
  | _, _, .cons ⟨h1, h2, h3⟩ t => .cons ⟨_, by rw [h1, h2], h3⟩ (vals_nrow t)
theorem nrel_keys : ∀ {xs : NE} {vs : NV}, NRel xs vs → vs.map (·.1) = xs.map (·.1)
  | _, _, .nil => rfl
  | _, _, .cons ⟨h1, _, _⟩ t => by rw [List.map_cons, List.map_cons, nrel_keys t, h1]
theorem nrel_mem : ∀ {xs : NE} {vs : NV}, NRel xs vs → ∀ x ∈ vs, ∃ p ∈ xs, p.1 = x.1 ∧ p.2.1 = x.2.1
  | _, _, .cons (a := p) ⟨h1, h2, _⟩ t, x, hx => by
    rcases List.mem_cons.mp hx with rfl | hx
    · exact ⟨_, List.mem_cons_self, h1, h2⟩
    · obtain ⟨p, hp, a, b⟩ := nrel_mem t x hx
      exact ⟨p, List.mem_cons_of_mem _ hp, a, b⟩
theorem paired_app {α β : Type} {F : α → β → Prop} : ∀ {a c : List α} {b d : List β}, Paired F a b → Paired F c d → Paired F (a ++ c) (b ++ d)
  | _, _, _, _, .nil, s => s
  | _, _, _, _, .cons r t, s => .cons r (paired_app t s)
def nAt (xs : NE) (k : NestedKey) : Option V := (xs.find? fun p => decide (p.1 = k)).map (·.2.2)
theorem nrel_at : ∀ {xs : NE} {vs : NV} (k : NestedKey), NRel xs vs → match nAt xs k with
    | none => atKey vs k = none
    | some v => ∃ b u, atKey vs k = some (b, u) ∧ RelV v u
  | _, _, k, .nil => rfl
  | _, _, k, .cons (a := p) (b := q) ⟨h1, h2, h3⟩ t => by
    have ih := nrel_at k t
    unfold nAt atKey at ih ⊢
    by_cases c : p.1 = k
    · rw [List.find?_cons_of_pos (by simp [c]), List.find?_cons_of_pos (by simp [← h1, c])]
      exact ⟨_, _, rfl, h3⟩
    · rw [List.find?_cons_of_neg (by simp [c]), List.find?_cons_of_neg (by simp [← h1, c])]
      exact ih
section
variable {X : Cx} {pins : List (Addr × Obj)} {σ : L2.St} {H : Hp} {s : Shared} {A : Around} {E : Value → Shared → Prop}
/-- the keys stand in the heap -/
def KOk (P : Program) (w : World) (h : Heap) (xs : NE) : Prop := ∀ p ∈ xs, (nestedKind P w).is h p.1 p.2.1
theorem nd_of (I : Inv X pins σ H s) {a : Addr} {xs : NE} (e : IsR X.w H a xs) (hk : KOk X.prog X.w s.heap xs) : ∃ vs : NV, NRel xs vs ∧ s.heap.DictOfH (nestedKind X.prog X.w) a vs := by
  have R := e.ok I.hok
  obtain ⟨o, es, ep, ho, hx, hd, he⟩ := R.ex
  obtain ⟨vs, r, e2⟩ := nrow_vals he
  refine ⟨vs, r, o, es, ep, ho, hx, hd, by rw [e2]; rfl, fun x hx => ?_, by rw [nrel_keys r]; exact R.nd⟩
  obtain ⟨p, hp, h1, h2⟩ := nrel_mem r x hx
  rw [← h1, ← h2]
  exact hk p hp
theorem nd_in (hu : A.units + 10 < cLine) (I : Inv X pins σ H s) {a b : Addr} {xs : NE} {k : NestedKey} {Q : Value → Shared → Prop} (e : IsR X.w H a xs) (hk : KOk X.prog X.w s.heap xs) (kb : (nestedKind X.prog X.w).is s.heap k b)
    (h : ∀ t, Q (.bool (nAt xs k).isSome) { s with toks := t }) : wpAny (model X.prog X.w) A (compareOp .In (.ref b) (.ref a)) Q E s := by
  obtain ⟨vs, r, d⟩ := nd_of I e hk
  refine wpAny_in_heap (knd := nestedKind X.prog X.w) (show A.units + 1 + 8 < cLine by omega) kb (e.ok I.hok).lo d ?_
  have z := nrel_at k r
  cases q : nAt xs k with
  | none => rw [q] at z h; rw [z]; exact h _
  | some v => rw [q] at z h; obtain ⟨c, u, z, _⟩ := z; rw [z]; exact h _
theorem nd_notIn (hu : A.units + 10 < cLine) (I : Inv X pins σ H s) {a b : Addr} {xs : NE} {k : NestedKey} {Q : Value → Shared → Prop} (e : IsR X.w H a xs) (hk : KOk X.prog X.w s.heap xs) (kb : (nestedKind X.prog X.w).is s.heap k b)
    (h : ∀ t, Q (.bool (!(nAt xs k).isSome)) { s with toks := t }) : wpAny (model X.prog X.w) A (compareOp .NotIn (.ref b) (.ref a)) Q E s := by
  obtain ⟨vs, r, d⟩ := nd_of I e hk
  refine wpAny_notIn_heap (knd := nestedKind X.prog X.w) (show A.units + 1 + 8 < cLine by omega) kb (e.ok I.hok).lo d ?_
  have z := nrel_at k r
  cases q : nAt xs k with
  | none => rw [q] at z h; rw [z]; exact h _
  | some v => rw [q] at z h; obtain ⟨c, u, z, _⟩ := z; rw [z]; exact h _
theorem nd_get (hu : A.units + 10 < cLine) (I : Inv X pins σ H s) {a b : Addr} {xs : NE} {k : NestedKey} {v : V} {Q : Value → Shared → Prop} (e : IsR X.w H a xs) (hk : KOk X.prog X.w s.heap xs) (kb : (nestedKind X.prog X.w).is s.heap k b) (hv : nAt xs k = some v)
    (h : ∀ t u, RelV v u → Q u { s with toks := t }) : wpAny (model X.prog X.w) A (getItem (.ref a) (.ref b)) Q E s := by
  obtain ⟨vs, r, d⟩ := nd_of I e hk
  have z := nrel_at k r
  rw [hv] at z
  obtain ⟨c, u, z, rv⟩ := z
  exact wpAny_getItem_heap (knd := nestedKind X.prog X.w) (show A.units + 1 + 8 < cLine by omega) kb d z (h _ u rv)
theorem nd_len (I : Inv X pins σ H s) {a : Addr} {xs : NE} {Q : Value → Shared → Prop} (e : IsR X.w H a xs) (hk : KOk X.prog X.w s.heap xs)
    (h : ∀ t t', Q (.int xs.length t) { s with toks := t' }) : wpAny (model X.prog X.w) A (call (.builtin "len") [.ref a]) Q E s := by
  obtain ⟨vs, r, d⟩ := nd_of I e hk
  have hl : xs.length = vs.length := Paired.length r
  have l63 := line63
  have few := (e.ok I.hok).few
  refine call_len_dictH (knd := nestedKind X.prog X.w) (e.ok I.hok).lo d (by omega) ?_
  rw [← hl]
  exact h _ _
def nPut (xs : NE) (k : NestedKey) (b : Addr) (v : V) : NE := if (xs.any fun p => decide (p.1 = k)) = true then xs.map (fun p => if p.1 = k then (p.1, p.2.1, v) else p) else xs ++ [(k, b, v)]
theorem nrel_any : ∀ {xs : NE} {vs : NV} (k : NestedKey), NRel xs vs → (vs.any fun p => decide (p.1 = k)) = xs.any fun p => decide (p.1 = k)
  | _, _, k, .nil => rfl
  | _, _, k, .cons ⟨h1, _, _⟩ t => by rw [List.any_cons, List.any_cons, nrel_any k t, h1]
theorem at_any {vs : NV} {k : NestedKey} : (vs.any fun p => decide (p.1 = k)) = (atKey vs k).isSome := by
  unfold atKey
  induction vs with
  | nil => rfl
  | cons p vs ih =>
    rw [List.any_cons]
    by_cases c : p.1 = k
    · rw [List.find?_cons_of_pos (by simp [c])]
      simp [c]
    · rw [List.find?_cons_of_neg (by simp [c]), ← ih]
      simp [c]
theorem nrel_map : ∀ {xs : NE} {vs : NV} {k : NestedKey} {v : V} {u : Value}, RelV v u → NRel xs vs → NRel (xs.map fun p => if p.1 = k then (p.1, p.2.1, v) else p) (vs.map (putAt k u))
  | _, _, k, v, u, r, .nil => .nil
  | _, _, k, v, u, r, .cons (a := p) (b := q) ⟨h1, h2, h3⟩ t => by
    rw [List.map_cons, List.map_cons]
    refine .cons ?_ (nrel_map r t)
    unfold putAt
    by_cases c : p.1 = k
    · rw [if_pos c, if_pos (h1 ▸ c)]
      exact ⟨h1, h2, r⟩
    · rw [if_neg c, if_neg (by rw [← h1]; exact c)]
      exact ⟨h1, h2, h3⟩
theorem nPut_len {xs : NE} {k : NestedKey} {b : Addr} {v : V} : (nPut xs k b v).length ≤ xs.length + 1 := by
  unfold nPut
  split
  · rw [List.length_map]; omega
  · rw [List.length_append]; exact Nat.le_refl _
theorem nd_put {a b : Addr} {xs : NE} {k : NestedKey} {v : V} {u : Value} {Q : Unit → Shared → Prop} (hu : A.units + 10 < cLine) (I : Inv X pins σ H s) (e : IsN X.w H a xs) (hk : KOk X.prog X.w s.heap xs) (kb : (nestedKind X.prog X.w).is s.heap k b) (rv : RelV v u) (hz : xs.length < sizeLine)
    (h : ∀ s', Inv X pins σ (upd H a (NDicO X.w a (nPut xs k b v))) s' → Q () s') : wpAny (model X.prog X.w) A (setItem (.ref a) (.ref b) u) Q E s := by
  have R := e.ok I.hok
  obtain ⟨vs, r, d⟩ := nd_of I (.inl e) hk
  have hl : xs.length = vs.length := Paired.length r
  refine wpAny_setItem_heap (hsz := by omega) (knd := nestedKind X.prog X.w) (show A.units + 1 + 8 < cLine by omega) kb d fun h' dd' hs => h _ ?_
  obtain ⟨q, es, ep, hq, h2, h3, h4, _, h5⟩ := dd'
  have mu : Mut (H a) := by
    rcases e with e | ⟨_, e⟩ <;> rw [e] <;> exact True.intro
  refine d_write I mu hs ⟨q, hq⟩ (nDic_new ?_)
  have key : NRel (nPut xs k b v) (storedH vs k b u) := by
    unfold nPut
    by_cases c : (xs.any fun p => decide (p.1 = k)) = true
    · rw [if_pos c]
      have c2 := nrel_any k r
      rw [c, at_any] at c2
      cases z : atKey vs k with
      | none => rw [z] at c2; cases c2
      | some w => rw [storedH_old z]; exact nrel_map rv r
    · rw [if_neg c]
      have c2 := nrel_any k r
      rw [at_any] at c2
      cases z : atKey vs k with
      | some w => rw [z] at c2; exact absurd c2.symm c
      | none => rw [storedH_new z]; exact paired_app r (.cons ⟨rfl, rfl, rv⟩ .nil)
  refine ⟨⟨q, es, ep, hq, h2, h3, ?_⟩, by rw [← nrel_keys key]; exact h5, R.lo, Nat.le_trans nPut_len hz⟩
  rw [h4]
  exact vals_nrow key
end
end Gd
set_option Elab.async false
set_option linter.all false
set_option maxRecDepth 100000
set_option maxHeartbeats 1000000
/-! Ta: values as trees; the world of a def that runs: what is frozen, what it owns (cells). -/
namespace TL
open PySem PySem.Spec PyProof.Rows L2 Gd
/-- a value as a tree -/
inductive D where
  | non | bl (b : Bool) | int (i : Int) | str (x : Str) | tup (ds : List D) | lst (ds : List D) | dic (kvs : List (D × D)) | obj (c : Nat) (fs : List (Str × D)) | ty (n : String) | cls (c : Nat) | scr (ns : List Int) | pr (ds : List D)
mutual
/-- numbers, truths, None, texts, tuples and lists of such -/
def toP : D → Option PyData
  | .non => some .none
  | .bl b => some (.bool b)
  | .int i => some (.int i)
  | .str x => some (.str x)
  | .tup ds => (toPs ds).map PyData.tuple
  | .lst ds => (toPs ds).map PyData.list
  | _ => none
def toPs : List D → Option (List PyData)
  | [] => some []
  | d :: r => match toP d, toPs r with
    | some p, some ps => some (p :: ps)
    | _, _ => none
end
/-- a tuple as a key -/
def kn (d : D) : Option NestedKey := match toP d with
  | some (.tuple ps) => if tOnlys ps = true ∧ PyData.depth (.tuple ps) ≤ 8 then some (nk (.tuple ps)) else none
  | _ => none
/-- the surroundings: the program, the world, what is known of the top, the classes by number -/
structure Ev where
  P : Program
  w : World
  K : PySem.W.Frag
  cm : Nat → Addr
  ce : Nat → Addr
  T : List (Addr × Str)
/-- a tuple that has no dict of its own -/
def TF (K : PySem.W.Frag) (F : Hp) (a : Addr) : Prop := (∃ o u, F a = some (.frz o u) ∧ o.cls = .type "tuple" ∧ o.dict = none) ∨ ∃ o, K.lookup a = some o ∧ o.cls = .type "tuple" ∧ o.dict = none
mutual
inductive At (E : Ev) (F : Hp) : V → D → Prop
  | non : At E F .non .non
  | bl (b : Bool) : At E F (.bl b) (.bl b)
  | int (i : Int) : At E F (.int i) (.int i)
  | str (x : Str) : At E F (.str x) (.str x)
  | ty (n : String) : At E F (.ty n) (.ty n)
  | cls (c : Nat) : At E F (.ref (E.cm c)) (.cls c)
  | scr {a : Addr} {ns : List Int} (h : SqL E.K F a (ns.map V.int)) : At E F (.ref a) (.scr ns)
  | tup {a : Addr} {xs : List V} {ds : List D} (h : SqT E.K F a xs) (r : Ats E F xs ds) (f : TF E.K F a) : At E F (.ref a) (.tup ds)
  | pr {a : Addr} {xs : List V} {ds : List D} (h : SqT E.K F a xs) (r : Ats E F xs ds) : At E F (.ref a) (.pr ds)
  | lst {a : Addr} {xs : List V} {ds : List D} (h : F a = some (.lst xs)) (r : Ats E F xs ds) : At E F (.ref a) (.lst ds)
  | dic {a : Addr} {kvs : List (Key × V)} {ps : List (D × D)} (h : Rd F a (.dK kvs)) (r : Atk E F kvs ps) : At E F (.ref a) (.dic ps)
  | dicN {a : Addr} {xs : NE} {ps : List (D × D)} (h : Rd F a (NDicO E.w a xs)) (n0 : xs ≠ []) (r : Atn E F xs ps) : At E F (.ref a) (.dic ps)
  | obj {a dx : Addr} {c : Nat} {fs : List (Str × V)} {gs : List (Str × D)} (h : F a = some (.ins (E.cm c) dx fs)) (r : Atf E F fs gs) : At E F (.ref a) (.obj c gs)
inductive Ats (E : Ev) (F : Hp) : List V → List D → Prop
  | nil : Ats E F [] []
  | cons {v : V} {vs : List V} {d : D} {ds : List D} (h : At E F v d) (r : Ats E F vs ds) : Ats E F (v :: vs) (d :: ds)
inductive Atk (E : Ev) (F : Hp) : List (Key × V) → List (D × D) → Prop
  | nil : Atk E F [] []
  | cons {k : Key} {v : V} {vs : List (Key × V)} {e d : D} {ds : List (D × D)} (hk : At E F (kV k) e) (h : At E F v d) (r : Atk E F vs ds) : Atk E F ((k, v) :: vs) ((e, d) :: ds)
inductive Atn (E : Ev) (F : Hp) : NE → List (D × D) → Prop
  | nil : Atn E F [] []
  | cons {k : NestedKey} {b : Addr} {v : V} {vs : NE} {e d : D} {ds : List (D × D)} (hk : At E F (.ref b) e) (q : kn e = some k) (h : At E F v d) (r : Atn E F vs ds) : Atn E F ((k, b, v) :: vs) ((e, d) :: ds)
inductive Atf (E : Ev) (F : Hp) : List (Str × V) → List (Str × D) → Prop
  | nil : Atf E F [] []
  | cons {n : Str} {v : V} {vs : List (Str × V)} {d : D} {ds : List (Str × D)} (h : At E F v d) (r : Atf E F vs ds) : Atf E F ((n, v) :: vs) ((n, d) :: ds)
end
/-- such as may be locked -/
def Lk (u : HO) : Prop := (∃ kvs, u = .dK kvs) ∨ ∃ φ, u = .ext φ
/-- what is frozen stays; a dict may be locked by a walk over it -/
def Sm (F F' : Hp) : Prop := ∀ a u, F a = some u → F' a = some u ∨ ∃ o, Lk u ∧ F' a = some (.frz o u)
theorem Sm.refl (F : Hp) : Sm F F := fun _ _ h => .inl h
theorem lk_frz {o : Obj} {u : HO} (h : Lk (.frz o u)) : False := by
  rcases h with ⟨_, z⟩ | ⟨_, z⟩ <;> cases z
theorem Sm.tr {F F1 F2 : Hp} (s : Sm F F1) (t : Sm F1 F2) : Sm F F2 := fun a u h => by
  rcases s a u h with h1 | ⟨o, l, h1⟩
  · exact t a u h1
  · rcases t a _ h1 with h2 | ⟨_, z, _⟩
    · exact .inr ⟨o, l, h2⟩
    · exact (lk_frz z).elim
theorem Sm.of {F F' : Hp} (s : Same F F') : Sm F F' := fun a u h => .inl (s a u h)
theorem Sm.get {F F' : Hp} (s : Sm F F') {a : Addr} {u : HO} (h : F a = some u) (n : Lk u → False) : F' a = some u := (s a u h).elim id fun ⟨_, l, _⟩ => (n l).elim
theorem Sm.rd {F F' : Hp} (s : Sm F F') {a : Addr} {u : HO} (h : Rd F a u) : Rd F' a u := by
  rcases h with h | ⟨o, h⟩
  · rcases s a u h with h | ⟨o, _, h⟩
    · exact .inl h
    · exact .inr ⟨o, h⟩
  · exact .inr ⟨o, s.get h lk_frz⟩
theorem Sm.tupS {K : PySem.W.Frag} {F F' : Hp} (s : Sm F F') {a : Addr} {xs : List V} (h : SqT K F a xs) : SqT K F' a xs := h.elim (fun z => .inl (s.rd z)) .inr
theorem Sm.seq {K : PySem.W.Frag} {F F' : Hp} (s : Sm F F') {a : Addr} {xs : List V} (h : SqL K F a xs) : SqL K F' a xs := h.elim (fun z => .inl (s.rd z)) .inr
theorem Sm.none {F F' : Hp} (s : Sm F F') {a : Addr} (h : F' a = Option.none) : F a = Option.none := by
  cases q : F a with
  | none => rfl
  | some u =>
    rcases s a u q with e | ⟨_, _, e⟩
    · rw [h] at e; cases e
    · rw [h] at e; cases e
theorem Sm.tf {K : PySem.W.Frag} {F F' : Hp} (s : Sm F F') {a : Addr} (h : TF K F a) : TF K F' a := h.imp (fun ⟨o, u, e, c⟩ => ⟨o, u, s.get e lk_frz, c⟩) id
section
variable {E : Ev} {F F' : Hp}
mutual
theorem At.mv (s : Sm F F') : ∀ {v : V} {d : D}, At E F v d → At E F' v d
  | _, _, .non => .non
  | _, _, .bl b => .bl b
  | _, _, .int i => .int i
  | _, _, .str x => .str x
  | _, _, .ty n => .ty n
  | _, _, .cls c => .cls c
  | _, _, .scr h => .scr (s.seq h)
  | _, _, .tup h r f => .tup (s.tupS h) (Ats.mv s r) (s.tf f)
  | _, _, .pr h r => .pr (s.tupS h) (Ats.mv s r)
  | _, _, .lst h r => .lst (s.get h (by rintro (⟨_, z⟩ | ⟨_, z⟩) <;> cases z)) (Ats.mv s r)
  | _, _, .dic h r => .dic (s.rd h) (Atk.mv s r)
  | _, _, .dicN h n0 r => .dicN (s.rd h) n0 (Atn.mv s r)
  | _, _, .obj h r => .obj (s.get h (by rintro (⟨_, z⟩ | ⟨_, z⟩) <;> cases z)) (Atf.mv s r)
theorem Ats.mv (s : Sm F F') : ∀ {vs : List V} {ds : List D}, Ats E F vs ds → Ats E F' vs ds
  | _, _, .nil => .nil
  | _, _, .cons h r => .cons (At.mv s h) (Ats.mv s r)
theorem Atk.mv (s : Sm F F') : ∀ {vs : List (Key × V)} {ds : List (D × D)}, Atk E F vs ds → Atk E F' vs ds
  | _, _, .nil => .nil
  | _, _, .cons hk h r => .cons (At.mv s hk) (At.mv s h) (Atk.mv s r)
theorem Atn.mv (s : Sm F F') : ∀ {vs : NE} {ds : List (D × D)}, Atn E F vs ds → Atn E F' vs ds
  | _, _, .nil => .nil
  | _, _, .cons hk q h r => .cons (At.mv s hk) q (At.mv s h) (Atn.mv s r)
theorem Atf.mv (s : Sm F F') : ∀ {vs : List (Str × V)} {ds : List (Str × D)}, Atf E F vs ds → Atf E F' vs ds
  | _, _, .nil => .nil
  | _, _, .cons h r => .cons (At.mv s h) (Atf.mv s r)
end
theorem Ats.len : ∀ {vs : List V} {ds : List D}, Ats E F vs ds → vs.length = ds.length
  | _, _, .nil => rfl
  | _, _, .cons _ r => congrArg (· + 1) (Ats.len r)
theorem Ats.get : ∀ {vs : List V} {ds : List D} {i : Nat} {d : D}, Ats E F vs ds → ds[i]? = some d → ∃ v, vs[i]? = some v ∧ At E F v d
  | _, _, _, _, .nil, e => by simp at e
  | _, _, 0, _, .cons h _, e => by
    cases (Option.some.inj e)
    exact ⟨_, rfl, h⟩
  | _, _, i + 1, d, .cons _ r, e => Ats.get (i := i) (d := d) r (by simpa using e)
theorem Ats.getV : ∀ {vs : List V} {ds : List D} {i : Nat} {v : V}, Ats E F vs ds → vs[i]? = some v → ∃ d, ds[i]? = some d ∧ At E F v d
  | _, _, _, _, .nil, e => by simp at e
  | _, _, 0, _, .cons h _, e => by
    cases (Option.some.inj e)
    exact ⟨_, rfl, h⟩
  | _, _, i + 1, d, .cons _ r, e => Ats.getV (i := i) (v := d) r (by simpa using e)
theorem Ats.app : ∀ {vs ws : List V} {ds es : List D}, Ats E F vs ds → Ats E F ws es → Ats E F (vs ++ ws) (ds ++ es)
  | _, _, _, _, .nil, s => s
  | _, _, _, _, .cons h r, s => .cons h (Ats.app r s)
theorem Ats.drop : ∀ {vs : List V} {ds : List D} (n : Nat), Ats E F vs ds → Ats E F (vs.drop n) (ds.drop n)
  | _, _, 0, r => r
  | _, _, _ + 1, .nil => .nil
  | _, _, n + 1, .cons _ r => Ats.drop n r
theorem Ats.take : ∀ {vs : List V} {ds : List D} (n : Nat), Ats E F vs ds → Ats E F (vs.take n) (ds.take n)
  | _, _, 0, _ => .nil
  | _, _, _ + 1, .nil => .nil
  | _, _, n + 1, .cons h r => .cons h (Ats.take n r)
theorem Ats.set : ∀ {vs : List V} {ds : List D} (i : Nat) {v : V} {d : D}, At E F v d → Ats E F vs ds → Ats E F (vs.set i v) (ds.set i d)
  | _, _, _, _, _, _, .nil => .nil
  | _, _, 0, _, _, h, .cons _ r => .cons h r
  | _, _, i + 1, _, _, h, .cons g r => .cons g (Ats.set i h r)
theorem Ats.rev : ∀ {vs : List V} {ds : List D}, Ats E F vs ds → Ats E F vs.reverse ds.reverse
  | _, _, .nil => .nil
  | _, _, .cons h r => by
    rw [List.reverse_cons, List.reverse_cons]
    exact Ats.app (Ats.rev r) (.cons h .nil)
theorem Ats.all {vs : List V} {ds : List D} {Pr : D → Prop} (h : Ats E F vs ds) (p : ∀ d ∈ ds, Pr d) : ∀ v ∈ vs, ∃ d, Pr d ∧ At E F v d := fun v hv => by
  obtain ⟨i, e⟩ := List.mem_iff_getElem?.mp hv
  obtain ⟨d, e2, a⟩ := h.getV e
  exact ⟨d, p d (List.mem_of_getElem? e2), a⟩
end
/-- what a def owns: a list or a dict under way -/
inductive Cell where
  | lst (ds : List D) | dic (kvs : List (D × D)) | ins (c : Nat) (fs : List (Str × D))
abbrev Cs := List (Option Cell)
inductive Er where
  | mk (c : Nat) (pl : Option (Str × D))
/-- what comes: a value, a cell, something new, an error -/
inductive Rs where
  | v (d : D) | c (k : Nat) | n (o : Cell) | ex (e : Er)
inductive Sv where
  | v (d : D) | c (k : Nat)
abbrev Sl := List (Option Sv)
def HoAt (E : Ev) (F : Hp) (a : Addr) (o : HO) : Cell → Prop
  | .lst ds => ∃ vs, o = .lst vs ∧ Ats E F vs ds
  | .dic kvs => (∃ vs, o = .dK vs ∧ Atk E F vs kvs) ∨ ∃ xs, o = NDicO E.w a xs ∧ xs ≠ [] ∧ Atn E F xs kvs
  | .ins c fs => ∃ dx vs, o = .ins (E.cm c) dx vs ∧ Atf E F vs fs
def CellAt (E : Ev) (F H : Hp) (a : Addr) (c : Cell) : Prop := ∃ o, H a = some o ∧ HoAt E F a o c
theorem HoAt.mv {E : Ev} {F F' : Hp} {a : Addr} {o : HO} {c : Cell} (s : Sm F F') (h : HoAt E F a o c) : HoAt E F' a o c := by
  cases c with
  | lst ds => obtain ⟨vs, e, r⟩ := h; exact ⟨vs, e, r.mv s⟩
  | dic kvs => exact h.imp (fun ⟨vs, e, r⟩ => ⟨vs, e, r.mv s⟩) fun ⟨xs, e, n, r⟩ => ⟨xs, e, n, r.mv s⟩
  | ins c fs => obtain ⟨dx, vs, e, r⟩ := h; exact ⟨dx, vs, e, r.mv s⟩
def Cell.d : Cell → D
  | .lst ds => .lst ds
  | .dic kvs => .dic kvs
  | .ins c fs => .obj c fs
theorem HoAt.at {E : Ev} {F : Hp} {a : Addr} {o : HO} {c : Cell} (h : F a = some o) (r : HoAt E F a o c) : At E F (.ref a) c.d := by
  cases c with
  | lst ds => obtain ⟨vs, rfl, r⟩ := r; exact .lst h r
  | dic kvs =>
    rcases r with ⟨vs, rfl, r⟩ | ⟨xs, rfl, n, r⟩
    · exact .dic (.inl h) r
    · exact .dicN (.inl h) n r
  | ins c fs => obtain ⟨dx, vs, rfl, r⟩ := r; exact .obj h r
/-- no table of code objects -/
def NT (o : HO) : Prop := ∀ ps, o ≠ .tbl ps
theorem nt_ho {E : Ev} {F : Hp} {a : Addr} {o : HO} {c : Cell} (h : HoAt E F a o c) : NT o := fun ps z => by
  subst z
  cases c with
  | lst ds => obtain ⟨_, e, _⟩ := h; cases e
  | dic kvs =>
    rcases h with ⟨_, e, _⟩ | ⟨xs, e, _⟩
    · cases e
    · unfold NDicO at e; cases e
  | ins c fs => obtain ⟨_, _, e, _⟩ := h; cases e
/-- a heap without its tables of code objects -/
def er (H : Hp) : Hp := fun a => match H a with
  | some (.tbl _) => none
  | o => o
theorem er_some {H : Hp} {a : Addr} {o : HO} : er H a = some o ↔ H a = some o ∧ NT o := by
  unfold er
  cases q : H a with
  | none => exact ⟨(fun z => by cases z), fun z => by cases z.1⟩
  | some u =>
    cases u with
    | tbl ps => exact ⟨(fun z => by cases z), fun z => (z.2 ps (Option.some.inj z.1).symm).elim⟩
    | _ => exact ⟨(fun z => ⟨z, fun ps y => by cases z; cases y⟩), fun z => z.1⟩
theorem er_none {H : Hp} {a : Addr} (h : H a = none) : er H a = none := by unfold er; rw [h]
/-- there is something that is no table -/
def Th (H : Hp) (a : Addr) : Prop := ∃ o, H a = some o ∧ NT o
theorem Th.er {H : Hp} {a : Addr} (h : Th H a) : er H a ≠ none := fun z => by
  obtain ⟨o, h1, h2⟩ := h
  rw [er_some.mpr ⟨h1, h2⟩] at z
  cases z
theorem Th.ne {H : Hp} {a : Addr} (h : Th H a) : H a ≠ none := fun z => by
  obtain ⟨o, h1, _⟩ := h
  rw [h1] at z
  cases z
theorem th_of {H : Hp} {a : Addr} (h : TL.er H a ≠ none) : Th H a := by
  cases q : TL.er H a with
  | none => exact absurd q h
  | some o => exact ⟨o, er_some.mp q⟩
theorem Th.upd {H : Hp} {a p : Addr} {o : HO} (h : Th H a) (n : NT o) : Th (L2.upd H p o) a := by
  by_cases q : a = p
  · subst q; exact ⟨o, upd_same, n⟩
  · obtain ⟨u, h1, h2⟩ := h
    exact ⟨u, by rw [upd_ne q]; exact h1, h2⟩
def codeH (a : Addr) (q : Str) : Heap := { objs := (Array.replicate a default).push { cls := .none, data := .fields #[.none, .str q 0] } }
theorem codeH_get (a : Addr) (q : Str) : (codeH a q).get? a = some { cls := .none, data := .fields #[.none, .str q 0] } := by
  have e : ((Array.replicate a (default : Obj)).push { cls := .none, data := .fields #[.none, .str q 0] })[a]? = some { cls := .none, data := .fields #[.none, .str q 0] } := by
    have z := Array.getElem?_push_size (xs := Array.replicate a (default : Obj)) (x := ({ cls := .none, data := .fields #[.none, .str q 0] } : Obj))
    rw [Array.size_replicate] at z
    exact z
  unfold codeH Heap.get?
  rw [e]
/-- no code object -/
def NC (o : HO) : Prop := ∀ c q, o = LamX.CodeO c q → False
theorem nd_nc {w : World} {a c : Addr} {xs : NE} {q : Str} (e : NDicO w a xs = LamX.CodeO a q) : False := by
  unfold NDicO LamX.CodeO at e
  have e := HO.ext.inj e
  have z := congrFun e (codeH a q)
  have y : NDic w (codeH a q) a xs := by
    rw [z]
    exact ⟨_, _, 0, codeH_get a q, rfl, rfl⟩
  obtain ⟨o, es, ep, h1, _, h2, _⟩ := y.ex
  rw [codeH_get] at h1
  cases h1
  cases h2
theorem nc_ho {E : Ev} {F : Hp} {a : Addr} {o : HO} {c : Cell} {q : Str} (h : HoAt E F a o c) (z : o = LamX.CodeO a q) : False := by
  subst z
  cases c with
  | lst ds => obtain ⟨_, e, _⟩ := h; unfold LamX.CodeO at e; cases e
  | dic kvs =>
    rcases h with ⟨_, e, _⟩ | ⟨xs, e, _⟩
    · unfold LamX.CodeO at e; cases e
    · exact nd_nc (c := a) e.symm
  | ins c fs => obtain ⟨_, _, e, _⟩ := h; unfold LamX.CodeO at e; cases e
theorem tabs_put {T : List (Addr × Str)} {H : Hp} {a : Addr} {o0 o : HO} (t : LamX.Tabs T H) (h : H a = some o0) (n1 : NT o0) (n2 : ∀ q, o0 = LamX.CodeO a q → False) : LamX.Tabs T (upd H a o) := fun p hp => by
  obtain ⟨ps, h1, h2, h3⟩ := t p hp
  refine ⟨ps, by rw [upd_ne (by intro z; rw [z, h] at h1; exact n1 ps (Option.some.inj h1))]; exact h1, h2, fun pos cv hc => ?_⟩
  obtain ⟨c, e1, e2⟩ := h3 pos cv hc
  exact ⟨c, e1, by rw [upd_ne (by intro z; rw [z, h] at e2; exact n2 p.2 (Option.some.inj e2))]; exact e2⟩
structure Bs where
  H0 : Hp
  F0 : Hp
  own : List Addr
structure Wd (E : Ev) (B : Bs) (H F : Hp) (as : List Addr) (C : Cs) : Prop where
  sub : Same F H
  f0 : Sm B.F0 F
  keep : ∀ a o, B.H0 a = some o → a ∉ B.own → B.F0 a = none → NT o → H a = some o
  th0 : ∀ a, B.H0 a ≠ none → Th H a
  tab : LamX.Tabs E.T H
  nt : ∀ a o, F a = some o → NT o
  new : ∀ a o, F a = some o → B.F0 a = none → B.H0 a = none
  len : as.length = C.length
  nd : as.Nodup
  pre : B.own <+: as
  fresh : ∀ a ∈ as, a ∈ B.own ∨ B.H0 a = none
  there : ∀ a ∈ as, Th H a
  at_ : ∀ (k : Nat) (a : Addr) (c : Cell), as[k]? = some a → C[k]? = some (some c) → F a = none ∧ CellAt E F H a c
structure Gr (E : Ev) (F H F' H' : Hp) : Prop where
  sub : Same F' H'
  f : Sm F F'
  h : ∀ a o, H a = some o → F a = none → NT o → H' a = some o
  n : ∀ a o, F' a = some o → F a = none → er H a = none
  th : ∀ a, Th H a → Th H' a
  tab : LamX.Tabs E.T H → LamX.Tabs E.T H'
  nt : (∀ a o, F a = some o → NT o) → ∀ a o, F' a = some o → NT o
theorem Gr.stay {E : Ev} {F H F' H' : Hp} (g : Gr E F H F' H') {a : Addr} {o : HO} (h : H a = some o) (n : NT o) (f : F a = none) : F' a = none := by
  cases q : F' a with
  | none => rfl
  | some u => exact absurd (g.n a u q f) (Th.er ⟨o, h, n⟩)
theorem Gr.refl {E : Ev} {F H : Hp} (s : Same F H) : Gr E F H F H := ⟨s, Sm.refl F, fun _ _ h _ _ => h, (fun a o e z => by rw [e] at z; cases z), fun _ h => h, id, id⟩
theorem Gr.trans {E : Ev} {F H F1 H1 F2 H2 : Hp} (a : Gr E F H F1 H1) (b : Gr E F1 H1 F2 H2) : Gr E F H F2 H2 :=
  ⟨b.sub, a.f.tr b.f, (fun x o e z nt => b.h x o (a.h x o e z nt) (a.stay e nt z) nt), (fun x o e z => by
    cases q : F1 x with
    | some u => exact a.n x u q z
    | none =>
      have h1 := b.n x o e q
      cases w : er H x with
      | none => rfl
      | some u => exact absurd h1 (a.th x ⟨u, er_some.mp w⟩).er), fun x h => b.th x (a.th x h), fun h => b.tab (a.tab h), fun h => b.nt (a.nt h)⟩
/-- a new thing that is frozen at once -/
theorem Gr.newF {E : Ev} {F H : Hp} {p : Addr} {o : HO} (s : Same F H) (hp : H p = none) (no : NT o := by intro _ z; cases z) : Gr E F H (upd F p o) (upd H p o) := by
  have fp : F p = none := by
    cases q : F p with
    | none => rfl
    | some u => rw [s p u q] at hp; cases hp
  refine ⟨fun a u e => ?_, .of (Same.newG fp), fun a u e _ _ => Same.newG hp a u e, fun a u e z => ?_, fun a h => ?_, fun h => h.ext (Same.newG hp), fun h a u e => ?_⟩
  · by_cases h : a = p
    · subst h; rw [upd_same] at e ⊢; exact e
    · rw [upd_ne h] at e ⊢; exact s a u e
  · by_cases h : a = p
    · subst h; exact er_none hp
    · rw [upd_ne h] at e; rw [e] at z; cases z
  · exact h.upd no
  · by_cases q : a = p
    · subst q; rw [upd_same] at e; cases e; exact no
    · rw [upd_ne q] at e; exact h a u e
/-- a new thing that is not frozen -/
theorem Gr.newH {E : Ev} {F H : Hp} {p : Addr} {o : HO} (s : Same F H) (hp : H p = none) (no : NT o := by intro _ z; cases z) : Gr E F H F (upd H p o) :=
  ⟨fun a u e => by rw [upd_ne (ne_of_none (s a u e) hp)]; exact s a u e, Sm.refl F, fun a u e _ _ => Same.newG hp a u e, (fun a u e z => by rw [e] at z; cases z), fun a h => h.upd no, fun h => h.ext (Same.newG hp), id⟩
section
variable {E : Ev} {B : Bs} {H F H' F' : Hp} {as : List Addr} {C : Cs}
theorem Wd.nobaseE (w : Wd E B H F as C) {p : Addr} (h : er H p = none) : B.H0 p = none := by
  cases q : B.H0 p with
  | none => rfl
  | some u => exact absurd h (w.th0 p (by rw [q]; simp)).er
theorem Wd.nobase (w : Wd E B H F as C) {p : Addr} (h : H p = none) : B.H0 p = none := w.nobaseE (er_none h)
theorem Wd.gr (w : Wd E B H F as C) (g : Gr E F H F' H') : Wd E B H' F' as C where
  sub := g.sub
  f0 := w.f0.tr g.f
  keep := fun a o e n z nt => by
    have e1 := w.keep a o e n z nt
    cases q : F a with
    | none => exact g.h a o e1 q nt
    | some u =>
      rw [w.new a u q z] at e
      cases e
  th0 := fun a h => g.th a (w.th0 a h)
  tab := g.tab w.tab
  nt := g.nt w.nt
  new := fun a o e z => by
    cases q : F a with
    | some u => exact w.new a u q z
    | none => exact w.nobaseE (g.n a o e q)
  len := w.len
  nd := w.nd
  pre := w.pre
  fresh := w.fresh
  there := fun a ha => g.th a (w.there a ha)
  at_ := fun k a c e1 e2 => by
    obtain ⟨f, o, h1, h2⟩ := w.at_ k a c e1 e2
    exact ⟨g.stay h1 (nt_ho h2) f, o, g.h a o h1 f (nt_ho h2), h2.mv g.f⟩
/-- a new cell -/
theorem Wd.cell (w : Wd E B H F as C) {p : Addr} {c : Cell} {o : HO} (h : H p = some o) (f : F p = none) (na : p ∉ as) (nb : B.H0 p = none) (at_ : HoAt E F p o c) : Wd E B H F (as ++ [p]) (C ++ [some c]) where
  sub := w.sub
  f0 := w.f0
  keep := w.keep
  th0 := w.th0
  tab := w.tab
  nt := w.nt
  new := w.new
  len := by rw [List.length_append, List.length_append, w.len]; rfl
  nd := by
    rw [List.nodup_append]
    exact ⟨w.nd, by simp, fun a ha b hb => by rw [List.mem_singleton.mp hb]; rintro rfl; exact na ha⟩
  pre := List.IsPrefix.trans w.pre (List.prefix_append _ _)
  fresh := fun a ha => (List.mem_append.mp ha).elim (w.fresh a) fun z => by rw [List.mem_singleton.mp z]; exact .inr nb
  there := fun a ha => (List.mem_append.mp ha).elim (w.there a) fun z => by rw [List.mem_singleton.mp z]; exact ⟨o, h, nt_ho at_⟩
  at_ := fun k a c' e1 e2 => by
    by_cases hk : k < as.length
    · rw [List.getElem?_append_left hk] at e1
      rw [List.getElem?_append_left (by rw [← w.len]; exact hk)] at e2
      exact w.at_ k a c' e1 e2
    · by_cases hk2 : k = as.length
      · subst hk2
        rw [List.getElem?_append_right (Nat.le_refl _), Nat.sub_self] at e1
        rw [w.len, List.getElem?_append_right (Nat.le_refl _), Nat.sub_self] at e2
        cases e1
        cases e2
        exact ⟨f, o, h, at_⟩
      · rw [List.getElem?_eq_none (by rw [List.length_append]; show as.length + 1 ≤ k; omega)] at e1
        cases e1
theorem nodup_at {as : List Addr} (nd : as.Nodup) {i j : Nat} {a : Addr} (h1 : as[i]? = some a) (h2 : as[j]? = some a) : i = j := by
  obtain ⟨l1, e1⟩ := List.getElem?_eq_some_iff.mp h1
  obtain ⟨l2, e2⟩ := List.getElem?_eq_some_iff.mp h2
  exact (List.getElem_inj nd).mp (e1.trans e2.symm)
/-- a cell changes -/
theorem Wd.put (w : Wd E B H F as C) {k : Nat} {a : Addr} {c c' : Cell} {o : HO} (ha : as[k]? = some a) (hc : C[k]? = some (some c)) (at_ : HoAt E F a o c') : Wd E B (upd H a o) F as (C.set k (some c')) := by
  obtain ⟨fa, o0, h0, hoat⟩ := w.at_ k a c ha hc
  have ne : ∀ b u, F b = some u → b ≠ a := fun b u e z => by rw [z, fa] at e; cases e
  have ma : a ∈ as := List.mem_of_getElem? ha
  have tb : ∀ b, Th H b → Th (upd H a o) b := fun b hb => hb.upd (nt_ho at_)
  refine ⟨fun b u e => by rw [upd_ne (ne b u e)]; exact w.sub b u e, w.f0, fun b u e n zf nt => ?_, fun b hb => tb b (w.th0 b hb), tabs_put w.tab h0 (nt_ho hoat) (fun q z => nc_ho hoat z), w.nt, w.new, by rw [List.length_set]; exact w.len, w.nd, w.pre, w.fresh, fun b hb => ?_, fun j b c2 e1 e2 => ?_⟩
  · have z : b ≠ a := by
      rintro rfl
      rcases w.fresh b ma with h | h
      · exact n h
      · rw [h] at e; cases e
    rw [upd_ne z]
    exact w.keep b u e n zf nt
  · exact tb b (w.there b hb)
  · by_cases z : b = a
    · subst z
      obtain rfl := nodup_at w.nd e1 ha
      rw [List.getElem?_set_self (by obtain ⟨l, _⟩ := List.getElem?_eq_some_iff.mp hc; exact l)] at e2
      cases e2
      exact ⟨fa, o, upd_same, at_⟩
    · have jk : k ≠ j := by rintro rfl; rw [ha] at e1; cases e1; exact z rfl
      rw [List.getElem?_set_ne jk] at e2
      obtain ⟨f1, o1, h1, h2⟩ := w.at_ j b c2 e1 e2
      exact ⟨f1, o1, by rw [upd_ne z]; exact h1, h2⟩
theorem Wd.frozen (w : Wd E B H F as C) {p : Addr} {o : HO} (h : H p = some o) (no : NT o) (nb : B.H0 p = none) (dead : ∀ (k : Nat), as[k]? = some p → ∀ c : Cell, C[k]? ≠ some (some c)) : Wd E B H (upd F p o) as C ∧ Sm F (upd F p o) := by
  have s : Same F (upd F p o) := fun b u e => by
    by_cases z : b = p
    · subst z
      rw [w.sub b u e] at h
      cases h
      exact upd_same
    · rw [upd_ne z]; exact e
  refine ⟨⟨fun b u e => ?_, w.f0.tr (.of s), w.keep, w.th0, w.tab, fun b u e => ?_, fun b u e z => ?_, w.len, w.nd, w.pre, w.fresh, w.there, fun k a c e1 e2 => ?_⟩, .of s⟩
  · by_cases z : b = p
    · subst z; rw [upd_same] at e; cases e; exact h
    · rw [upd_ne z] at e; exact w.sub b u e
  · by_cases z : b = p
    · subst z; rw [upd_same] at e; cases e; exact no
    · rw [upd_ne z] at e; exact w.nt b u e
  · by_cases zz : b = p
    · subst zz; exact nb
    · rw [upd_ne zz] at e; exact w.new b u e z
  · obtain ⟨f1, o1, h1, h2⟩ := w.at_ k a c e1 e2
    have z : a ≠ p := by rintro rfl; exact dead k e1 c e2
    exact ⟨by rw [upd_ne z]; exact f1, o1, h1, h2.mv (.of s)⟩
end
/-- a slot's content -/
def SvAt (E : Ev) (F : Hp) (as : List Addr) (v : V) : Sv → Prop
  | .v d => At E F v d
  | .c k => ∃ a, as[k]? = some a ∧ v = .ref a
structure Sr (E : Ev) (F : Hp) (as : List Addr) (σ : L2.St) (G : Sl) : Prop where
  len : σ.length = G.length
  at_ : ∀ (i : Nat) x, G[i]? = some (some x) → ∃ v, σ[i]? = some (some v) ∧ SvAt E F as v x
theorem SvAt.mv {E : Ev} {F F' : Hp} {as as' : List Addr} {v : V} {x : Sv} (s : Sm F F') (p : as <+: as') (h : SvAt E F as v x) : SvAt E F' as' v x := by
  cases x with
  | v d => exact At.mv s h
  | c k =>
    obtain ⟨a, e, r⟩ := h
    exact ⟨a, by
      obtain ⟨t, rfl⟩ := p
      rw [List.getElem?_append_left (List.getElem?_eq_some_iff.mp e).1]
      exact e, r⟩
theorem Sr.mv {E : Ev} {F F' : Hp} {as as' : List Addr} {σ : L2.St} {G : Sl} (s : Sm F F') (p : as <+: as') (h : Sr E F as σ G) : Sr E F' as' σ G :=
  ⟨h.len, fun i x e => let ⟨v, a, b⟩ := h.at_ i x e; ⟨v, a, b.mv s p⟩⟩
theorem Sr.set {E : Ev} {F : Hp} {as : List Addr} {σ : L2.St} {G : Sl} (h : Sr E F as σ G) (i : Nat) {v : V} {x : Sv} (a : SvAt E F as v x) : Sr E F as (σ.set i (some v)) (G.set i (some x)) :=
  ⟨by rw [List.length_set, List.length_set, h.len], fun j y e => by
    by_cases z : i = j
    · subst z
      by_cases l : i < G.length
      · rw [List.getElem?_set_self l] at e
        cases e
        exact ⟨v, List.getElem?_set_self (by rw [h.len]; exact l), a⟩
      · rw [List.getElem?_eq_none (by rw [List.length_set]; omega)] at e
        cases e
    · rw [List.getElem?_set_ne z] at e
      obtain ⟨v2, b1, b2⟩ := h.at_ j y e
      exact ⟨v2, by rw [List.getElem?_set_ne z]; exact b1, b2⟩⟩
theorem Sr.wip {E : Ev} {F : Hp} {as : List Addr} {σ : L2.St} {G : Sl} (h : Sr E F as σ G) (i : Nat) : Sr E F as (σ.set i none) (G.set i none) :=
  ⟨by rw [List.length_set, List.length_set, h.len], fun j y e => by
    by_cases z : i = j
    · subst z
      by_cases l : i < G.length
      · rw [List.getElem?_set_self l] at e; cases e
      · rw [List.getElem?_eq_none (by rw [List.length_set]; omega)] at e; cases e
    · rw [List.getElem?_set_ne z] at e
      obtain ⟨v2, b1, b2⟩ := h.at_ j y e
      exact ⟨v2, by rw [List.getElem?_set_ne z]; exact b1, b2⟩⟩
/-- forget more -/
theorem Sr.less {E : Ev} {F : Hp} {as : List Addr} {σ : L2.St} {G : Sl} (h : Sr E F as σ G) (i : Nat) : Sr E F as σ (G.set i Option.none) :=
  ⟨by rw [List.length_set, h.len], fun j y e => by
    by_cases z : i = j
    · subst z
      by_cases l : i < G.length
      · rw [List.getElem?_set_self l] at e; cases e
      · rw [List.getElem?_eq_none (by rw [List.length_set]; omega)] at e; cases e
    · rw [List.getElem?_set_ne z] at e
      exact h.at_ j y e⟩
end TL
set_option Elab.async false
set_option linter.all false
set_option maxRecDepth 100000
set_option maxHeartbeats 1000000
/-! Tb: what an expression computes; its reading. -/
namespace TL
open PySem PySem.Spec PyProof.Rows L2 Gd
abbrev Ro := Option (Rs × Cs)
abbrev CE := Sl → Cs → Ro
/-- what comes stands at v -/
def RsAt (E : Ev) (B : Bs) (F H : Hp) (as : List Addr) (v : V) : Rs → Prop
  | .v d => At E F v d
  | .c k => ∃ a, as[k]? = some a ∧ v = .ref a
  | .n o => ∃ p ho, v = .ref p ∧ H p = some ho ∧ F p = none ∧ p ∉ as ∧ B.H0 p = none ∧ HoAt E F p ho o
  | .ex _ => False
def ErAt (E : Ev) (F H : Hp) (cls : Value) (dx : Option Addr) : Er → Prop
  | .mk c none => cls = .ref (E.ce c) ∧ dx = none
  | .mk c (some (f, d)) => cls = .ref (E.ce c) ∧ ∃ x v, dx = some x ∧ H x = some (.xd [(f, v)]) ∧ At E F v d
def PoE (E : Ev) (B : Bs) (W : WX) (F : Hp) (as : List Addr) (C : Cs) (σ : L2.St) (r : Rs) (Q : VK) : Prop :=
  ∀ F' H', Sm F F' → Wd E B H' F' as C → match r with
    | .ex e => ∀ cls dx, ErAt E F' H' cls dx e → W cls dx σ H'
    | r => ∀ v, RsAt E B F' H' as v r → Q v H'
abbrev Ph := Hp → List Addr → Prop
def Mo (Φ : Ph) : Prop := ∀ F F' as, Sm F F' → Φ F as → Φ F' as
/-- a reading while Φ holds of what is frozen -/
def rF (E : Ev) (B : Bs) (W : WX) (Φ : Ph) (c : CE) : TE := fun σ H Q => ∃ F as G C r C', Wd E B H F as C ∧ Sr E F as σ G ∧ Φ F as ∧ c G C = some (r, C') ∧ PoE E B W F as C' σ r Q
def tru : Ph := fun _ _ => True
abbrev rE (E : Ev) (B : Bs) (W : WX) (c : CE) : TE := rF E B W tru c
/-- then, with a value or a cell -/
def bv (r : Ro) (k : Sv → Cs → Ro) : Ro :=
  match r with
  | some (.ex e, C) => some (.ex e, C)
  | some (.v d, C) => k (.v d) C
  | some (.c i, C) => k (.c i) C
  | _ => none
/-- then, with something new -/
def bn (r : Ro) (k : Cell → Cs → Ro) : Ro :=
  match r with
  | some (.ex e, C) => some (.ex e, C)
  | some (.n o, C) => k o C
  | _ => none
theorem same_tr {F F1 F2 : Hp} (s : Sm F F1) (t : Sm F1 F2) : Sm F F2 := s.tr t
section
variable {E : Ev} {B : Bs} {W : WX} {Φ : Ph} {c : CE} {σ : L2.St} {H : Hp} {Q : VK}
theorem PoE.back {F : Hp} {as : List Addr} {C : Cs} {r : Rs} (h : PoE E B W F as C σ r Q) (ne : ∀ e, r ≠ .ex e) {F' H' : Hp} {v : V} (s : Sm F F') (w : Wd E B H' F' as C) (a : RsAt E B F' H' as v r) : Q v H' := by
  have z := h F' H' s w
  cases r with
  | ex e => exact absurd rfl (ne e)
  | v d => exact z v a
  | c k => exact z v a
  | n o => exact z v a
theorem PoE.imp {F F1 : Hp} {as : List Addr} {C : Cs} {r : Rs} (h : PoE E B W F as C σ r Q) (s : Sm F F1) : PoE E B W F1 as C σ r Q := fun F' H' s' w => h F' H' (same_tr s s') w
theorem PoE.of {F : Hp} {as : List Addr} {C : Cs} {r : Rs} (h1 : ∀ e, r = .ex e → ∀ F' H', Sm F F' → Wd E B H' F' as C → ∀ cls dx, ErAt E F' H' cls dx e → W cls dx σ H') (h2 : ∀ F' H' v, Sm F F' → Wd E B H' F' as C → (∀ e, r ≠ .ex e) → RsAt E B F' H' as v r → Q v H') : PoE E B W F as C σ r Q := fun F' H' s w => by
  cases r with
  | ex e => exact h1 e rfl F' H' s w
  | v d => exact fun v a => h2 F' H' v s w (fun _ z => by cases z) a
  | c k => exact fun v a => h2 F' H' v s w (fun _ z => by cases z) a
  | n o => exact fun v a => h2 F' H' v s w (fun _ z => by cases z) a
theorem PoE.ex {F : Hp} {as : List Addr} {C : Cs} {e : Er} (h : PoE E B W F as C σ (.ex e) Q) {F' H' : Hp} {cls : Value} {dx : Option Addr} (s : Sm F F') (w : Wd E B H' F' as C) (a : ErAt E F' H' cls dx e) : W cls dx σ H' := h F' H' s w cls dx a
theorem rF_bv {k : Sl → Sv → Cs → Ro} (mo : Mo Φ) (h : rF E B W Φ (fun G C => bv (c G C) (k G)) σ H Q) : rE E B W c σ H fun v H1 => ∃ x : Sv, rF E B W (fun F as => Φ F as ∧ SvAt E F as v x) (fun G C => k G x C) σ H1 Q := by
  obtain ⟨F, as, G, C, r, C', wd, sr, ph, e, po⟩ := h
  have e : bv (c G C) (k G) = some (r, C') := e
  cases q : c G C with
  | none => rw [q] at e; cases e
  | some p =>
    obtain ⟨x, C1⟩ := p
    rw [q] at e
    refine ⟨F, as, G, C, x, C1, wd, sr, trivial, q, fun F' H' s w => ?_⟩
    cases x with
    | ex er => cases e; exact po F' H' s w
    | v d => exact fun v a => ⟨.v d, F', as, G, C1, r, C', w, sr.mv s (List.prefix_refl _), ⟨mo F F' as s ph, a⟩, e, po.imp s⟩
    | c i => exact fun v a => ⟨.c i, F', as, G, C1, r, C', w, sr.mv s (List.prefix_refl _), ⟨mo F F' as s ph, a⟩, e, po.imp s⟩
    | n o => cases e
theorem rF_bn {k : Sl → Cell → Cs → Ro} (mo : Mo Φ) (h : rF E B W Φ (fun G C => bn (c G C) (k G)) σ H Q) : rE E B W c σ H fun v H1 => ∃ F as G C o r C', Wd E B H1 F as C ∧ Sr E F as σ G ∧ Φ F as ∧ RsAt E B F H1 as v (.n o) ∧ k G o C = some (r, C') ∧ PoE E B W F as C' σ r Q := by
  obtain ⟨F, as, G, C, r, C', wd, sr, ph, e, po⟩ := h
  have e : bn (c G C) (k G) = some (r, C') := e
  cases q : c G C with
  | none => rw [q] at e; cases e
  | some p =>
    obtain ⟨x, C1⟩ := p
    rw [q] at e
    refine ⟨F, as, G, C, x, C1, wd, sr, trivial, q, fun F' H' s w => ?_⟩
    cases x with
    | ex er => cases e; exact po F' H' s w
    | v d => cases e
    | c i => cases e
    | n o => exact fun v a => ⟨F', as, G, C1, o, r, C', w, sr.mv s (List.prefix_refl _), mo F F' as s ph, a, e, po.imp s⟩
theorem mo_tru : Mo tru := fun _ _ _ _ _ => trivial
theorem mo_and {Φ : Ph} {v : V} {x : Sv} (m : Mo Φ) : Mo fun F as => Φ F as ∧ SvAt E F as v x := fun F F' as s h => ⟨m F F' as s h.1, h.2.mv s (List.prefix_refl _)⟩
end
/-! ### a value's content -/
def peek (C : Cs) : Sv → Option D
  | .v d => some d
  | .c k => (C[k]?.bind id).map Cell.d
/-- what may be looked at: a frozen thing, or a list whose items are frozen -/
def Pk (E : Ev) (F H : Hp) (v : V) (d : D) : Prop := At E F v d ∨ ∃ a o c, v = .ref a ∧ H a = some o ∧ HoAt E F a o c ∧ d = c.d
theorem peek_c {C : Cs} {k : Nat} {d : D} (e : peek C (.c k) = some d) : ∃ c, C[k]? = some (some c) ∧ d = c.d := by
  have e : (C[k]?.bind id).map Cell.d = some d := e
  cases q : C[k]? with
  | none => rw [q] at e; cases e
  | some oc =>
    cases oc with
    | none => rw [q] at e; cases e
    | some c => rw [q] at e; cases e; exact ⟨c, rfl, rfl⟩
theorem peek_pk {E : Ev} {B : Bs} {F H : Hp} {as : List Addr} {C : Cs} {v : V} {x : Sv} {d : D} (w : Wd E B H F as C) (a : SvAt E F as v x) (e : peek C x = some d) : Pk E F H v d := by
  cases x with
  | v d' => cases e; exact .inl a
  | c k =>
    obtain ⟨b, h1, rfl⟩ := a
    obtain ⟨c, q, rfl⟩ := peek_c e
    obtain ⟨_, o, h2, h3⟩ := w.at_ k b c h1 q
    exact .inr ⟨b, o, c, rfl, h2, h3, rfl⟩
theorem Pk.at {E : Ev} {F H : Hp} {v : V} {d : D} (s : Same F H) (p : Pk E F H v d) : At E H v d := by
  rcases p with h | ⟨a, o, c, rfl, h, r, rfl⟩
  · exact h.mv (.of s)
  · exact (r.mv (.of s)).at h
/-- what an operation gives: a value, or something new -/
inductive Rd1 where
  | v (d : D) | n (o : Cell)
def Rd1.rs : Rd1 → Rs
  | .v d => .v d
  | .n o => .n o
theorem Rd1.nex {z : Rd1} : ∀ e, z.rs ≠ .ex e := fun e => by cases z <;> exact fun q => by cases q
/-- from the world F, H: what came stands in F', H' -/
def R1At (E : Ev) (F H F' H' : Hp) (v : V) : Rd1 → Prop
  | .v d => At E F' v d
  | .n o => ∃ p ho, v = .ref p ∧ H p = none ∧ H' p = some ho ∧ F' p = none ∧ HoAt E F' p ho o
theorem R1At.rs {E : Ev} {B : Bs} {F H F' H' : Hp} {as : List Addr} {C : Cs} {v : V} {z : Rd1} (w : Wd E B H F as C) (a : R1At E F H F' H' v z) : RsAt E B F' H' as v z.rs := by
  cases z with
  | v d => exact a
  | n o =>
    obtain ⟨p, ho, rfl, h1, h2, h3, h4⟩ := a
    exact ⟨p, ho, rfl, h2, h3, fun z => (w.there p z).ne h1, w.nobase h1, h4⟩
/-- an operation of two -/
def rD (E : Ev) (f : D → D → Option Rd1) : R2 := fun x y H Q => ∃ F dx dy z, Same F H ∧ Pk E F H x dx ∧ Pk E F H y dy ∧ f dx dy = some z ∧ ∀ F' H' v, Gr E F H F' H' → R1At E F H F' H' v z → Q v H'
def OpD (X : Cx) (E : Ev) (g : Value → Value → Sem Value) (f : D → D → Option Rd1) : Prop := OpR X g (rD E f)
def rD0 (E : Ev) (f : D → Option Rd1) : V → Hp → VK → Prop := fun x H Q => ∃ F d z, Same F H ∧ Pk E F H x d ∧ f d = some z ∧ ∀ F' H' v, Gr E F H F' H' → R1At E F H F' H' v z → Q v H'
inductive Pks (E : Ev) (F H : Hp) : List V → List D → Prop
  | nil : Pks E F H [] []
  | cons {v : V} {d : D} {vs : List V} {ds : List D} (h : Pk E F H v d) (r : Pks E F H vs ds) : Pks E F H (v :: vs) (d :: ds)
def rDs (E : Ev) (f : List D → Option Rd1) : List V → Hp → VK → Prop := fun xs H Q => ∃ F ds z, Same F H ∧ Pks E F H xs ds ∧ f ds = some z ∧ ∀ F' H' v, Gr E F H F' H' → R1At E F H F' H' v z → Q v H'
def CallD (X : Cx) (E : Ev) (g : Value) (f : List D → Option Rd1) : Prop := CallR X g (rDs E f)
def MtD (X : Cx) (E : Ev) (g : String) (f : D → List D → Option Rd1) : Prop := MtR X g (fun x xs H Q => ∃ F d ds z, Same F H ∧ Pk E F H x d ∧ Pks E F H xs ds ∧ f d ds = some z ∧ ∀ F' H' v, Gr E F H F' H' → R1At E F H F' H' v z → Q v H')
/-! ### the combinators -/
def sOf (G : Sl) (i : Nat) : Option Rs := match G[i]? with
  | some (some (.v d)) => some (.v d)
  | some (some (.c k)) => some (.c k)
  | _ => none
def cVar (i : Nat) : CE := fun G C => (sOf G i).map fun r => (r, C)
def cC (d : D) : CE := fun _ C => some (.v d, C)
def out (o : Option Rd1) (C : Cs) : Ro := o.map fun z => (z.rs, C)
def c2 (f : D → D → Option Rd1) (a b : CE) : CE := fun G C => bv (a G C) fun x C1 => bv (b G C1) fun y C2 => out ((peek C2 x).bind fun dx => (peek C2 y).bind fun dy => f dx dy) C2
def c1 (f : D → Option Rd1) (a : CE) : CE := fun G C => bv (a G C) fun x C1 => out ((peek C1 x).bind f) C1
/-- frozen at once -/
def cFr (a : CE) : CE := fun G C => bn (a G C) fun o C1 => some (.v o.d, C1)
def onB (x : Sv) (t f : Ro) : Ro := match x with
  | .v (.bl true) => t
  | .v (.bl false) => f
  | _ => none
def cAnd (a b : CE) : CE := fun G C => bv (a G C) fun x C1 => onB x (b G C1) (some (.v (.bl false), C1))
def cOr (a b : CE) : CE := fun G C => bv (a G C) fun x C1 => onB x (some (.v (.bl true), C1)) (b G C1)
def cNot (a : CE) : CE := fun G C => bv (a G C) fun x C1 => onB x (some (.v (.bl false), C1)) (some (.v (.bl true), C1))
def cIf (t a b : CE) : CE := fun G C => bv (t G C) fun x C1 => onB x (a G C1) (b G C1)
theorem PE.weak {X : Cx} {e : Expr} {t t' : TE} (h : PE X e t) (w : ∀ σ H Q, t' σ H Q → t σ H Q) : PE X e t' := ⟨fun pins s σ H Q I q => h.run pins s σ H Q I (w σ H Q q)⟩
theorem PT.weak {X : Cx} {e : Expr} {t t' : TT} (h : PT X e t) (w : ∀ σ H Q, t' σ H Q → t σ H Q) : PT X e t' := ⟨fun pins s σ H Q I q => h.run pins s σ H Q I (w σ H Q q)⟩
theorem PW.weak {X : Cx} {e : Expr} {t t' : TT} (h : PW X e t) (w : ∀ σ H Q, t' σ H Q → t σ H Q) : PW X e t' := ⟨fun wh pins s σ H Q I q => h.run wh pins s σ H Q I (w σ H Q q)⟩
theorem PA.weak {X : Cx} {e : List Expr} {t t' : TA} (h : PA X e t) (w : ∀ σ H Q, t' σ H Q → t σ H Q) : PA X e t' := ⟨fun pos pins s σ H Q I q => h.run pos pins s σ H Q I (w σ H Q q)⟩
theorem PS.weak {X : Cx} {e : Stmt} {t t' : TS} (h : PS X e t) (w : ∀ D σ H, t' D σ H → t D σ H) : PS X e t' := ⟨fun pins s σ H D I q => h.run pins s σ H D I (w D σ H q)⟩
theorem PSs.weak {X : Cx} {e : List Stmt} {t t' : TS} (h : PSs X e t) (w : ∀ D σ H, t' D σ H → t D σ H) : PSs X e t' := ⟨fun pins s σ H D I q => h.run pins s σ H D I (w D σ H q)⟩
section
variable {X : Cx} {E : Ev} {B : Bs} {W : WX} {pos : Pos} {a b : Expr} {ca cb ct : CE} {Φ : Ph} {σ : L2.St} {H : Hp} {Q : VK}
theorem rF_tru {c : CE} (h : rF E B W Φ c σ H Q) : rE E B W c σ H Q := by
  obtain ⟨F, as, G, C, r, C', wd, sr, ph, e, po⟩ := h
  exact ⟨F, as, G, C, r, C', wd, sr, trivial, e, po⟩
/-- an end -/
theorem rF_out {f : Sl → Cs → Option Rd1} (h : rF E B W Φ (fun G C => out (f G C) C) σ H Q) : ∃ F as G C z, Wd E B H F as C ∧ Sr E F as σ G ∧ Φ F as ∧ f G C = some z ∧ ∀ F' H' v, Gr E F H F' H' → R1At E F H F' H' v z → Q v H' := by
  obtain ⟨F, as, G, C, r, C', wd, sr, ph, e, po⟩ := h
  have e : (f G C).map (fun z => (z.rs, C)) = some (r, C') := e
  cases q : f G C with
  | none => rw [q] at e; cases e
  | some z =>
    rw [q] at e
    cases e
    exact ⟨F, as, G, C, z, wd, sr, ph, q, fun F' H' v g a => po.back Rd1.nex g.f (wd.gr g) (a.rs wd)⟩
/-- a value that is known -/
theorem rF_v {d : D} (h : rF E B W Φ (fun G C => some (.v d, C)) σ H Q) {v : V} (a : ∀ F as, Φ F as → At E F v d) : Q v H := by
  obtain ⟨F, as, G, C, r, C', wd, sr, ph, e, po⟩ := h
  cases e
  exact po.back (fun _ z => by cases z) (Sm.refl F) wd (a F as ph)
theorem onB_split {x : Sv} {t f : Sl → Cs → Ro} (h : rF E B W Φ (fun G C => onB x (t G C) (f G C)) σ H Q) : ∃ c : Bool, x = .v (.bl c) ∧ if c = true then rF E B W Φ t σ H Q else rF E B W Φ f σ H Q := by
  obtain ⟨F, as, G, C, r, C', wd, sr, ph, e, po⟩ := h
  cases x with
  | c k => cases e
  | v d =>
    cases d with
    | bl c =>
      refine ⟨c, rfl, ?_⟩
      cases c with
      | true => exact ⟨F, as, G, C, r, C', wd, sr, ph, e, po⟩
      | false => exact ⟨F, as, G, C, r, C', wd, sr, ph, e, po⟩
    | _ => cases e
theorem at_bl {F : Hp} {v : V} {c : Bool} (h : At E F v (.bl c)) : v = .bl c := by cases h; rfl
theorem at_int {F : Hp} {v : V} {c : Int} (h : At E F v (.int c)) : v = .int c := by cases h; rfl
theorem at_str {F : Hp} {v : V} {c : Str} (h : At E F v (.str c)) : v = .str c := by cases h; rfl
theorem rF_at {c : CE} {p : Prop} (h : rF E B W Φ c σ H Q) (k : ∀ F as, Φ F as → p) : p := by
  obtain ⟨F, as, G, C, r, C', wd, sr, ph, e, po⟩ := h
  exact k F as ph
theorem ev_var {i : Nat} {x : Str} (h : PE X (.Name x pos) (tVar i)) : PE X (.Name x pos) (rE E B W (cVar i)) := PE.weak h fun σ H Q ⟨F, as, G, C, r, C', wd, sr, _, e, po⟩ => by
  have e : (sOf G i).map (fun r => (r, C)) = some (r, C') := e
  unfold sOf at e
  cases q : G[i]? with
  | none => rw [q] at e; cases e
  | some o =>
    cases o with
    | none => rw [q] at e; cases e
    | some x =>
      obtain ⟨v, h1, h2⟩ := sr.at_ i x q
      rw [q] at e
      refine ⟨v, h1, ?_⟩
      cases x with
      | v d => cases e; exact po.back (fun _ z => by cases z) (Sm.refl F) wd h2
      | c k => cases e; exact po.back (fun _ z => by cases z) (Sm.refl F) wd h2
theorem ev_c {e : Expr} {v : V} {d : D} (h : PE X e (tC v)) (at_ : ∀ F, At E F v d) : PE X e (rE E B W (cC d)) := PE.weak h fun σ H Q h => rF_v h fun F _ _ => at_ F
theorem ev_int {i j pos} : PE X (.Constant (.int i) j pos) (rE E B W (cC (.int i))) := ev_c pe_int fun _ => .int i
theorem ev_bl {i j pos} : PE X (.Constant (.bool i) j pos) (rE E B W (cC (.bl i))) := ev_c pe_bl fun _ => .bl i
theorem ev_non {j pos} : PE X (.Constant .none j pos) (rE E B W (cC .non)) := ev_c pe_non fun _ => .non
theorem ev_str {i j pos} : PE X (.Constant (.str i) j pos) (rE E B W (cC (.str i))) := ev_c pe_str fun _ => .str i
theorem rF_imp {c : CE} {Q' : VK} (h : rF E B W Φ c σ H Q) (k : ∀ v H1, Q v H1 → Q' v H1) : rF E B W Φ c σ H Q' := by
  obtain ⟨F, as, G, C, r, C', wd, sr, ph, e, po⟩ := h
  exact ⟨F, as, G, C, r, C', wd, sr, ph, e, .of (fun e z F' H' s w cls dx a => by subst z; exact po.ex s w a) fun F' H' v s w ne a => k _ _ (po.back ne s w a)⟩
theorem rF_eq {c c' : CE} (h : rF E B W Φ c σ H Q) (e : ∀ G C, c G C = c' G C) : rF E B W Φ c' σ H Q := by
  have z : c = c' := funext fun G => funext fun C => e G C
  rw [← z]
  exact h
/-- two, then their operation -/
theorem two {f : D → D → Option Rd1} (h : rE E B W (c2 f ca cb) σ H Q) : tOp (rD E f) (rE E B W ca) (rE E B W cb) σ H Q := by
  refine rF_imp (rF_bv mo_tru h) fun v H1 ⟨x, h1⟩ => ?_
  refine rF_imp (rF_bv (mo_and mo_tru) h1) fun u H2 ⟨y, h2⟩ => ?_
  obtain ⟨F, as, G, C, z, wd, sr, ⟨⟨_, ax⟩, ay⟩, e, k⟩ := rF_out h2
  cases q1 : peek C x with
  | none => rw [q1] at e; cases e
  | some dx =>
    cases q2 : peek C y with
    | none => rw [q1, q2] at e; cases e
    | some dy =>
      rw [q1, q2] at e
      exact ⟨F, dx, dy, z, wd.sub, peek_pk wd ax q1, peek_pk wd ay q2, e, k⟩
theorem one {f : D → Option Rd1} (h : rE E B W (c1 f ca) σ H Q) : rE E B W ca σ H fun v H1 => rD0 E f v H1 Q := by
  refine rF_imp (rF_bv mo_tru h) fun v H1 ⟨x, h1⟩ => ?_
  obtain ⟨F, as, G, C, z, wd, sr, ⟨_, ax⟩, e, k⟩ := rF_out h1
  cases q1 : peek C x with
  | none => rw [q1] at e; cases e
  | some dx =>
    rw [q1] at e
    exact ⟨F, dx, z, wd.sub, peek_pk wd ax q1, e, k⟩
theorem ev_op {op : Operator} {f : D → D → Option Rd1} (ho : OpD X E (binaryOp op) f) (ha : PE X a (rE E B W ca)) (hb : PE X b (rE E B W cb)) : PE X (.BinOp a op b pos) (rE E B W (c2 f ca cb)) :=
  PE.weak (pe_op ho ha hb) fun _ _ _ h => two h
theorem ev_cmp {op : CmpOp} {f : D → D → Option Rd1} (ho : OpD X E (compareOp op) f) (ha : PE X a (rE E B W ca)) (hb : PE X b (rE E B W cb)) (hm : behindInMarks op b = false) : PE X (.Compare a [op] [b] pos) (rE E B W (c2 f ca cb)) :=
  PE.weak (pe_cmpR ho ha hb hm) fun _ _ _ h => two h
theorem ev_un {op : UnaryOp} {f : D → Option Rd1} (ho : UnR X (unaryOp op) (rD0 E f)) (ha : PE X a (rE E B W ca)) : PE X (.UnaryOp op a pos) (rE E B W (c1 f ca)) :=
  PE.weak (pe_un ho ha) fun _ _ _ h => one h
/-- a test's reading: the value is a truth -/
def rT (E : Ev) (B : Bs) (W : WX) (c : CE) : TT := fun σ H Q => ∃ F as G C r C', Wd E B H F as C ∧ Sr E F as σ G ∧ c G C = some (r, C') ∧ match r with
  | .v (.bl b) => ∀ F' H', Sm F F' → Wd E B H' F' as C' → Q b H'
  | .ex e => ∀ F' H' cls dx, Sm F F' → Wd E B H' F' as C' → ErAt E F' H' cls dx e → W cls dx σ H'
  | _ => False
/-- a test, as a value's reading -/
theorem rT_rE {c : CE} {Q : Bool → Hp → Prop} (h : rT E B W c σ H Q) : rE E B W c σ H fun v H1 => ∃ b, v = .bl b ∧ Q b H1 := by
  obtain ⟨F, as, G, C, r, C', wd, sr, e, po⟩ := h
  refine ⟨F, as, G, C, r, C', wd, sr, trivial, e, .of (fun er z F' H' s w cls dx a => by subst z; exact po F' H' cls dx s w a) fun F' H' v s w ne a => ?_⟩
  cases r with
  | ex er => exact absurd rfl (ne er)
  | c k => exact po.elim
  | n o => exact po.elim
  | v d =>
    cases d with
    | bl b => exact ⟨b, at_bl a, po F' H' s w⟩
    | _ => exact po.elim
/-- a value's reading, as a test -/
theorem rE_rT {c : CE} {Q : Bool → Hp → Prop} (h : rF E B W Φ c σ H fun v H1 => ∃ b, v = .bl b ∧ Q b H1) (nb : ∀ F as G C r C', Wd E B H F as C → Sr E F as σ G → Φ F as → c G C = some (r, C') → (∃ b, r = .v (.bl b)) ∨ ∃ e, r = .ex e) : rT E B W c σ H Q := by
  obtain ⟨F, as, G, C, r, C', wd, sr, ph, e, po⟩ := h
  refine ⟨F, as, G, C, r, C', wd, sr, e, ?_⟩
  rcases nb F as G C r C' wd sr ph e with ⟨b, rfl⟩ | ⟨er, rfl⟩
  · intro F' H' s w
    obtain ⟨b', z, q⟩ := po.back (fun _ z => by cases z) s w (At.bl b)
    cases z
    exact q
  · exact fun F' H' cls dx s w a => po.ex s w a
theorem tv_val (ha : PE X a (rE E B W ca)) (he : ∀ whole, isTrue a X.env whole = (do let v ← whole; standAt a.pos; holding [v] (truthy v)) := by intro _; rfl) : PT X a (rT E B W ca) :=
  PT.weak (pt_val ha he) fun _ _ _ h => rT_rE h
theorem tv_cmp {op : CmpOp} {f : D → D → Option Rd1} (ho : OpD X E (compareOp op) f) (ha : PE X a (rE E B W ca)) (hb : PE X b (rE E B W cb)) (hm : behindInMarks op b = false) : PT X (.Compare a [op] [b] pos) (rT E B W (c2 f ca cb)) :=
  PT.weak (pt_cmpR ho ha hb hm) fun _ _ _ h => two (rT_rE h)
def Sv.rs : Sv → Rs
  | .v d => .v d
  | .c k => .c k
/-- a test, then what follows by its truth -/
theorem rT_on {c : CE} {t f : CE} {Q : Bool → Hp → Prop} (h : rT E B W (fun G C => bv (c G C) fun x C1 => onB x (t G C1) (f G C1)) σ H Q) : rT E B W c σ H fun b H1 => if b = true then rT E B W t σ H1 Q else rT E B W f σ H1 Q := by
  obtain ⟨F, as, G, C, r, C', wd, sr, e, po⟩ := h
  have e : bv (c G C) (fun x C1 => onB x (t G C1) (f G C1)) = some (r, C') := e
  cases q : c G C with
  | none => rw [q] at e; cases e
  | some p =>
    obtain ⟨x, C1⟩ := p
    rw [q] at e
    refine ⟨F, as, G, C, x, C1, wd, sr, q, ?_⟩
    have nxt : ∀ (c2 : CE), c2 G C1 = some (r, C') → ∀ F' H', Sm F F' → Wd E B H' F' as C1 → rT E B W c2 σ H' Q := fun c2 e2 F' H' s w => by
      refine ⟨F', as, G, C1, r, C', w, sr.mv s (List.prefix_refl _), e2, ?_⟩
      cases r with
      | ex er => exact fun F2 H2 cls dx s2 w2 => po F2 H2 cls dx (same_tr s s2) w2
      | c k => exact po.elim
      | n o => exact po.elim
      | v d =>
        cases d with
        | bl b => exact fun F2 H2 s2 w2 => po F2 H2 (same_tr s s2) w2
        | _ => exact po.elim
    cases x with
    | ex er => cases e; exact po
    | c k => cases e
    | n o => cases e
    | v d =>
      cases d with
      | bl b =>
        cases b with
        | true => exact fun F' H' s w => nxt t e F' H' s w
        | false => exact fun F' H' s w => nxt f e F' H' s w
      | _ => cases e
theorem rT_imp {c : CE} {Q Q' : Bool → Hp → Prop} (h : rT E B W c σ H Q) (k : ∀ b H1, Q b H1 → Q' b H1) : rT E B W c σ H Q' := by
  obtain ⟨F, as, G, C, r, C', wd, sr, e, po⟩ := h
  refine ⟨F, as, G, C, r, C', wd, sr, e, ?_⟩
  cases r with
  | ex er => exact po
  | c k => exact po.elim
  | n o => exact po.elim
  | v d =>
    cases d with
    | bl b => exact fun F2 H2 s2 w2 => k _ _ (po F2 H2 s2 w2)
    | _ => exact po.elim
theorem rT_c {d : Bool} {Q : Bool → Hp → Prop} (h : rT E B W (fun _ C => some (.v (.bl d), C)) σ H Q) : Q d H := by
  obtain ⟨F, as, G, C, r, C', wd, sr, e, po⟩ := h
  cases e
  exact po F H (Sm.refl F) wd
theorem tv_not (ha : PT X a (rT E B W ca)) : PT X (.UnaryOp .Not a pos) (rT E B W (cNot ca)) :=
  PT.weak (pt_not ha) fun _ _ _ h => rT_imp (rT_on (t := fun _ C => some (.v (.bl false), C)) (f := fun _ C => some (.v (.bl true), C)) h) fun b H1 q => by
    cases b with
    | true => exact rT_c q
    | false => exact rT_c q
theorem wv_one_and (ha : PT X a (rT E B W ca)) : PW X (.BoolOp .And [a] pos) (rT E B W ca) := pw_and1 ha
theorem wv_one_or (ha : PT X a (rT E B W ca)) : PW X (.BoolOp .Or [a] pos) (rT E B W ca) := pw_or1 ha
theorem wv_and {rest : List Expr} (ha : PT X a (rT E B W ca)) (hb : PW X (.BoolOp .And (b :: rest) pos) (rT E B W cb)) : PW X (.BoolOp .And (a :: b :: rest) pos) (rT E B W (cAnd ca cb)) :=
  PW.weak (pw_and ha hb) fun _ _ _ h => rT_imp (rT_on (t := cb) (f := fun _ C => some (.v (.bl false), C)) h) fun b H1 q => by
    cases b with
    | true => exact q
    | false => exact rT_c q
theorem wv_or {rest : List Expr} (ha : PT X a (rT E B W ca)) (hb : PW X (.BoolOp .Or (b :: rest) pos) (rT E B W cb)) : PW X (.BoolOp .Or (a :: b :: rest) pos) (rT E B W (cOr ca cb)) :=
  PW.weak (pw_or ha hb) fun _ _ _ h => rT_imp (rT_on (t := fun _ C => some (.v (.bl true), C)) (f := cb) h) fun b H1 q => by
    cases b with
    | true => exact rT_c q
    | false => exact q
/-- and, or, not as values -/
theorem rF_on {Φ : Ph} {x : Sv} {v : V} {t f : CE} (h : rF E B W (fun F as => Φ F as ∧ SvAt E F as v x) (fun G C => onB x (t G C) (f G C)) σ H Q) : ∃ c : Bool, v = .bl c ∧ if c = true then rE E B W t σ H Q else rE E B W f σ H Q := by
  obtain ⟨c, rfl, k⟩ := onB_split h
  refine ⟨c, rF_at h fun F as p => at_bl p.2, ?_⟩
  cases c with
  | true => exact rF_tru k
  | false => exact rF_tru k
theorem ev_one {op : BoolOp} (ha : PE X a (rE E B W ca)) : PE X (.BoolOp op [a] pos) (rE E B W ca) := pe_one ha
theorem ev_and {rest : List Expr} (ha : PE X a (rE E B W ca)) (hb : PE X (.BoolOp .And (b :: rest) pos) (rE E B W cb)) : PE X (.BoolOp .And (a :: b :: rest) pos) (rE E B W (cAnd ca cb)) :=
  PE.weak (pe_and ha hb) fun _ _ _ h => rF_imp (rF_bv mo_tru h) fun v H1 ⟨x, q⟩ => by
    obtain ⟨c, rfl, k⟩ := rF_on (t := cb) (f := fun _ C => some (.v (.bl false), C)) q
    refine ⟨c, rfl, ?_⟩
    cases c with
    | true => exact k
    | false => exact rF_v k fun _ _ _ => .bl false
theorem ev_or {rest : List Expr} (ha : PE X a (rE E B W ca)) (hb : PE X (.BoolOp .Or (b :: rest) pos) (rE E B W cb)) : PE X (.BoolOp .Or (a :: b :: rest) pos) (rE E B W (cOr ca cb)) :=
  PE.weak (pe_or ha hb) fun _ _ _ h => rF_imp (rF_bv mo_tru h) fun v H1 ⟨x, q⟩ => by
    obtain ⟨c, rfl, k⟩ := rF_on (t := fun _ C => some (.v (.bl true), C)) (f := cb) q
    refine ⟨c, rfl, ?_⟩
    cases c with
    | true => exact rF_v k fun _ _ _ => .bl true
    | false => exact k
theorem ev_not (ha : PE X a (rE E B W ca)) : PE X (.UnaryOp .Not a pos) (rE E B W (cNot ca)) :=
  PE.weak (pe_not ha) fun _ _ _ h => rF_imp (rF_bv mo_tru h) fun v H1 ⟨x, q⟩ => by
    obtain ⟨c, rfl, k⟩ := rF_on (t := fun _ C => some (.v (.bl false), C)) (f := fun _ C => some (.v (.bl true), C)) q
    refine ⟨c, rfl, ?_⟩
    cases c with
    | true => exact rF_v k fun _ _ _ => .bl _
    | false => exact rF_v k fun _ _ _ => .bl _
theorem rT_if {c t f : CE} (h : rE E B W (cIf c t f) σ H Q) : rT E B W c σ H fun b H1 => if b = true then rE E B W t σ H1 Q else rE E B W f σ H1 Q := by
  obtain ⟨F, as, G, C, r, C', wd, sr, _, e, po⟩ := h
  have e : bv (c G C) (fun x C1 => onB x (t G C1) (f G C1)) = some (r, C') := e
  cases q : c G C with
  | none => rw [q] at e; cases e
  | some p =>
    obtain ⟨x, C1⟩ := p
    rw [q] at e
    refine ⟨F, as, G, C, x, C1, wd, sr, q, ?_⟩
    have nxt : ∀ (c2 : CE), c2 G C1 = some (r, C') → ∀ F' H', Sm F F' → Wd E B H' F' as C1 → rE E B W c2 σ H' Q := fun c2 e2 F' H' s w => ⟨F', as, G, C1, r, C', w, sr.mv s (List.prefix_refl _), trivial, e2, po.imp s⟩
    cases x with
    | ex er => cases e; exact fun F' H' cls dx s w a => po.ex s w a
    | c k => cases e
    | n o => cases e
    | v d =>
      cases d with
      | bl b =>
        cases b with
        | true => exact fun F' H' s w => nxt t e F' H' s w
        | false => exact fun F' H' s w => nxt f e F' H' s w
      | _ => cases e
theorem ev_if {c : Expr} (hc : PT X c (rT E B W ct)) (ha : PE X a (rE E B W ca)) (hb : PE X b (rE E B W cb)) : PE X (.IfExp c a b pos) (rE E B W (cIf ct ca cb)) :=
  PE.weak (pe_ifExp hc ha hb) fun _ _ _ h => rT_if h
/-- a < b < c -/
def cChain (f g : D → D → Option Rd1) (a b c : CE) : CE := fun G C => bv (a G C) fun x C1 => bv (b G C1) fun y C2 =>
  bv (out ((peek C2 x).bind fun dx => (peek C2 y).bind fun dy => f dx dy) C2) fun z C3 => onB z (bv (c G C3) fun u C4 => out ((peek C4 y).bind fun dy => (peek C4 u).bind fun du => g dy du) C4) (some (.v (.bl false), C3))
/-- what is frozen at once -/
theorem frz {c : CE} (h : rE E B W (cFr c) σ H Q) : rE E B W c σ H Q := by
  refine rF_imp (rF_bn mo_tru h) fun v H1 ⟨F, as, G, C, o, r, C', wd, sr, _, ⟨p, ho, e1, e2, e3, e4, e5, e6⟩, e, po⟩ => ?_
  cases e
  obtain ⟨w2, s⟩ := wd.frozen e2 (nt_ho e6) e5 fun k hk c _ => e4 (List.mem_of_getElem? hk)
  refine po.back (fun _ z => by cases z) s w2 ?_
  subst e1
  exact (e6.mv s).at upd_same
theorem ev_fr (ha : PE X a (rE E B W ca)) : PE X a (rE E B W (cFr ca)) := PE.weak ha fun _ _ _ h => frz h
end
end TL
set_option Elab.async false
set_option linter.all false
set_option maxRecDepth 100000
set_option maxHeartbeats 1000000
/-! Tg: rules that make tuples, told with the object itself (it has no dict of its own). -/
namespace TL
open PySem PySem.Spec PyProof.Rows L2 Gd
abbrev TOb (o : Obj) : Prop := o.cls = .type "tuple" ∧ o.dict = none
theorem tf_new {K : PySem.W.Frag} {F : Hp} {p : Addr} {o : Obj} {u : HO} (t : TOb o) : TF K (upd F p (.frz o u)) p := .inl ⟨o, u, upd_same, t.1, t.2⟩
theorem sq_new {K : PySem.W.Frag} {F : Hp} {p : Addr} {o : Obj} {xs : List V} : SqT K (upd F p (.frz o (.tup xs))) p xs := .inl (.inr ⟨o, upd_same⟩)
section
variable {X : Cx} {pos : Pos} {es : List Expr} {t : TA}
def tTupF (t : TA) : TE := fun σ H Q => t σ H fun xs H1 => xs.length ≤ sizeLine ∧ ∀ p o, TOb o → H1 p = none → Q (.ref p) (upd H1 p (.frz o (.tup xs)))
theorem pe_tupF {x1} (h : PA X es t) : PE X (.Tuple es x1 pos) (tTupF t) := by
  refine ⟨fun pins s σ H Q I hq => ?_⟩
  refine wpAny_Tuple_spliced (thn (h.run pos pins s σ H _ I hq) fun us s1 ⟨xs, H1, I1, r, z, q⟩ => ⟨by rw [← r.length]; exact z, ?_⟩)
  have hf : H1 s1.heap.objs.size = none := I1.hok.fresh (Nat.le_refl _)
  refine ⟨.ref s1.heap.objs.size, upd H1 s1.heap.objs.size (.frz { cls := .type "tuple", data := .seq us.toArray } (.tup xs)), I1.laid (t' := s1.toks) (fun b u e => Heap.get?_push_of_some _ e) (Nat.le_refl _) ?_, rfl, q _ _ ⟨rfl, rfl⟩ hf⟩
  exact ⟨Heap.get?_push_size _ rfl, z, us, r, ⟨_, Heap.get?_push_size _ rfl, rfl, _, rfl⟩⟩
theorem call_tupF : CallR X (.type "tuple") (fun xs H Q => ∃ p ys, xs = [.ref p] ∧ ((SqL X.K H p ys ∧ ∀ l o, TOb o → H l = none → Q (.ref l) (upd H l (.frz o (.tup ys)))) ∨ (SqT X.K H p ys ∧ Q (.ref p) H))) := by
  intro pins s σ H xs us Q I r h
  obtain ⟨p, ys, rfl, h⟩ := h
  obtain ⟨u, rfl, rx⟩ := vals1 r
  cases rx
  rcases h with ⟨hq, q⟩ | ⟨hq, q⟩
  · obtain ⟨its, r', pl, hz⟩ := I.list hq
    have hlen := r'.length
    refine call_tuple_list pl.isList (fun h' kp => ?_) (by simp only [List.size_toArray] <;> omega)
    have I1 : L2.Inv X pins σ H { s with heap := h' } := I.kept (t' := s.toks) kp
    have I2 : L2.Inv X pins σ (upd H h'.objs.size (.frz { cls := .type "tuple", data := .seq its.toArray } (.tup ys))) { s with heap := h'.push { cls := .type "tuple", data := .seq its.toArray } } :=
      I1.laid (t' := s.toks) (fun b o e => Heap.get?_push_of_some _ e) (Nat.le_refl _) (show ObjOk X.prog X.w _ _ _ (.frz _ (.tup ys)) from ⟨Heap.get?_push_size _ rfl, hz, its, r', IsTup.new _ _⟩)
    exact ⟨.ref h'.objs.size, _, I2, rfl, q _ _ ⟨rfl, rfl⟩ (I1.hok.fresh (Nat.le_refl _))⟩
  · obtain ⟨its, r', pl, hz⟩ := I.tuple hq
    exact call_tuple_same pl ⟨.ref p, H, I, rfl, q⟩
def rCatF (K : PySem.W.Frag) : R2 := fun x y H Q => ∃ a b xs ys, x = .ref a ∧ y = .ref b ∧ SqT K H a xs ∧ SqT K H b ys ∧ xs.length + ys.length ≤ sizeLine ∧
  (xs = [] → Q (.ref b) H) ∧ (ys = [] → Q (.ref a) H) ∧ ∀ p o, TOb o → H p = none → Q (.ref p) (upd H p (.frz o (.tup (xs ++ ys))))
theorem op_catF : OpR X (binaryOp .Add) (rCatF X.K) := by
  intro pins s σ H x y v u Q I rx ry h
  obtain ⟨a, b, xs, ys, rfl, rfl, ha, hb, hz, q0, q1, q2⟩ := h
  cases rx
  cases ry
  obtain ⟨its, r1, p1, _⟩ := I.tuple ha
  obtain ⟨its2, r2, p2, _⟩ := I.tuple hb
  by_cases hx : xs = []
  · subst hx
    cases r1
    exact cat_tup0 p1 p2 ⟨.ref b, H, I, rfl, q0 rfl⟩
  · refine HT.cat_tup p1 p2 (fun z => hx (r1.nil_iff.mp z)) (fun z => ⟨.ref a, H, I, rfl, q1 (r2.nil_iff.mp z)⟩) (fun z => ?_) (by rw [← r1.length, ← r2.length]; exact hz)
    refine ⟨.ref s.heap.objs.size, _, I.laid (t' := s.toks) (o := .frz { cls := .type "tuple", data := .seq (its ++ its2).toArray } (.tup (xs ++ ys))) (fun b ob q => Heap.get?_push_of_some _ q) (Nat.le_refl _) ?_, rfl, q2 _ _ ⟨rfl, rfl⟩ (I.hok.fresh (Nat.le_refl _))⟩
    exact ⟨Heap.get?_push_size _ rfl, by rw [List.length_append]; exact hz, _, r1.append r2, IsTup.new _ _⟩
def rSlF (K : PySem.W.Frag) : V → Option Int → Option Int → Hp → VK → Prop := fun x lo hi H Q => ∃ a xs, x = .ref a ∧ SqT K H a xs ∧
  (HT.sIx xs.length 0 lo = 0 ∧ HT.sIx xs.length xs.length hi = xs.length → Q (.ref a) H) ∧ (¬ (HT.sIx xs.length 0 lo = 0 ∧ HT.sIx xs.length xs.length hi = xs.length) → ∀ p o, TOb o → H p = none → Q (.ref p) (upd H p (.frz o (.tup (cutV xs lo hi)))))
theorem sl_tupF : SlR X (rSlF X.K) := by
  intro pins s σ H x v vl vu lo hi sl Q I rx hs pl pu h
  obtain ⟨a, xs, rfl, hx, q1, q2⟩ := h
  cases rx
  obtain ⟨its, r, ht, hz⟩ := I.tuple hx
  have hlen : its.toArray.size = xs.length := by rw [List.size_toArray]; exact r.length.symm
  refine ⟨"tuple", _, PyProof.Rows.slot_tuple_getitem.lookup, ht.typeIs, ?_⟩
  by_cases hw : HT.sIx xs.length 0 lo = 0 ∧ HT.sIx xs.length xs.length hi = xs.length
  · exact getItem_tuple_whole ht hs pl pu (by rw [hlen]; exact hw) ⟨.ref a, H, I, rfl, q1 hw⟩
  · refine HT.getItem_tuple_cut ht hs pl pu (by rw [hlen]; exact hw) ?_ (by rw [hlen]; exact hz)
    rw [hlen]
    generalize hO : ({ cls := .type "tuple", data := .seq (List.take (HT.sIx xs.length xs.length hi - HT.sIx xs.length 0 lo) (List.drop (HT.sIx xs.length 0 lo) its.toArray.toList)).toArray } : Obj) = O
    refine ⟨.ref s.heap.objs.size, upd H s.heap.objs.size (.frz O (.tup (cutV xs lo hi))), I.laid (t' := s.toks) (fun b ob q => Heap.get?_push_of_some _ q) (Nat.le_refl _) ?_, rfl, q2 hw _ _ (by rw [← hO]; exact ⟨rfl, rfl⟩) (I.hok.fresh (Nat.le_refl _))⟩
    subst hO
    exact ⟨Heap.get?_push_size _ rfl, Nat.le_trans (cutV_length xs lo hi) hz, _, (r.drop (HT.sIx xs.length 0 lo)).take (HT.sIx xs.length xs.length hi - HT.sIx xs.length 0 lo), IsTup.new _ _⟩
theorem call_dvmF : CallR X (.builtin "divmod") (fun xs H Q => ∃ i j, xs = [.int i, .int j] ∧ CDiv i j ∧ ∀ p o, TOb o → H p = none → Q (.ref p) (upd H p (.frz o (.tup [.int (i / j), .int (i % j)])))) := by
  intro pins s σ H xs us Q I r h
  obtain ⟨i, j, rfl, ⟨h1, h2⟩, q⟩ := h
  obtain ⟨u, w', rfl, ⟨t, rfl⟩, ⟨t', rfl⟩⟩ := vals2 r
  refine divmod_int (by omega) ?_ (.inl (PyProof.noPylong_small (by omega)))
  rw [Int.fdiv_eq_ediv_of_nonneg i (by omega), Int.fmod_eq_emod_of_nonneg i (by omega)]
  have hn : H s.heap.objs.size = none := I.hok.fresh (Nat.le_refl _)
  refine ⟨.ref s.heap.objs.size, upd H s.heap.objs.size (.frz { cls := .type "tuple", data := .seq #[.int (i / j) s.toks, .int (i % j) (s.toks + 1)] } (.tup [.int (i / j), .int (i % j)])), ?_, rfl, q _ _ ⟨rfl, rfl⟩ hn⟩
  refine I.laid (fun b o e => Heap.get?_push_of_some _ e) (Nat.le_refl _) ⟨Heap.get?_push_size s.heap rfl, by simp only [List.length_cons, List.length_nil]; rw [sizeLine_eq]; decide, [.int (i / j) s.toks, .int (i % j) (s.toks + 1)], .cons ⟨_, rfl⟩ (.cons ⟨_, rfl⟩ .nil), ?_⟩
  exact ⟨_, Heap.get?_push_size s.heap rfl, rfl, 0, rfl⟩
end
end TL
set_option Elab.async false
set_option linter.all false
set_option maxRecDepth 100000
set_option maxHeartbeats 1000000
/-! Uc: argument lists, displays, calls of built-ins and of defs. -/
namespace TL
open PySem PySem.Spec PyProof.Rows L2 Gd
inductive Ra where
  | ok (xs : List Sv) | ex (e : Er)
abbrev CA := Sl → Cs → Option (Ra × Cs)
inductive SvsAt (E : Ev) (F : Hp) (as : List Addr) : List V → List Sv → Prop
  | nil : SvsAt E F as [] []
  | cons {v : V} {x : Sv} {vs : List V} {xs : List Sv} (h : SvAt E F as v x) (r : SvsAt E F as vs xs) : SvsAt E F as (v :: vs) (x :: xs)
theorem SvsAt.mv {E : Ev} {F F' : Hp} {as as' : List Addr} (s : Sm F F') (p : as <+: as') : ∀ {vs : List V} {xs : List Sv}, SvsAt E F as vs xs → SvsAt E F' as' vs xs
  | _, _, .nil => .nil
  | _, _, .cons h r => .cons (h.mv s p) (SvsAt.mv s p r)
def PoA (E : Ev) (B : Bs) (W : WX) (F : Hp) (as : List Addr) (C : Cs) (σ : L2.St) (r : Ra) (Q : List V → Hp → Prop) : Prop :=
  ∀ F' H', Sm F F' → Wd E B H' F' as C → match r with
    | .ex e => ∀ cls dx, ErAt E F' H' cls dx e → W cls dx σ H'
    | .ok xs => ∀ vs, SvsAt E F' as vs xs → Q vs H'
def rA (E : Ev) (B : Bs) (W : WX) (Φ : Ph) (c : CA) : TA := fun σ H Q => ∃ F as G C r C', Wd E B H F as C ∧ Sr E F as σ G ∧ Φ F as ∧ c G C = some (r, C') ∧ PoA E B W F as C' σ r Q
def aNil : CA := fun _ C => some (.ok [], C)
def aCons (c : CE) (r : CA) : CA := fun G C => match c G C with
  | some (.ex e, C1) => some (.ex e, C1)
  | some (.v d, C1) => (r G C1).map fun p => match p.1 with
    | .ok xs => (.ok (.v d :: xs), p.2)
    | .ex e => (.ex e, p.2)
  | some (.c k, C1) => (r G C1).map fun p => match p.1 with
    | .ok xs => (.ok (.c k :: xs), p.2)
    | .ex e => (.ex e, p.2)
  | _ => none
def ba (r : Option (Ra × Cs)) (k : List Sv → Cs → Ro) : Ro := match r with
  | some (.ex e, C) => some (.ex e, C)
  | some (.ok xs, C) => k xs C
  | none => none
section
variable {X : Cx} {E : Ev} {B : Bs} {W : WX} {pos : Pos} {e : Expr} {es : List Expr} {c : CE} {ca : CA} {Φ : Ph} {σ : L2.St} {H : Hp} {Q : VK}
theorem rA_nil {QA : List V → Hp → Prop} (h : rA E B W Φ aNil σ H QA) : tNil σ H QA := by
  obtain ⟨F, as, G, C, r, C', wd, sr, _, e, po⟩ := h
  cases e
  exact po F H (Sm.refl F) wd [] .nil
theorem rA_cons (mo : Mo Φ) {QA : List V → Hp → Prop} (h : rA E B W Φ (aCons c ca) σ H QA) : tCons (rE E B W c) (rA E B W tru ca) σ H QA := by
  obtain ⟨F, as, G, C, r, C', wd, sr, ph, e, po⟩ := h
  unfold aCons at e
  cases q : c G C with
  | none => simp only [q] at e; cases e
  | some p =>
    obtain ⟨x, C1⟩ := p
    simp only [q] at e
    refine ⟨F, as, G, C, x, C1, wd, sr, trivial, q, fun F' H' s w => ?_⟩
    have go : ∀ (y : Sv), (ca G C1).map (fun p => match p.1 with
        | .ok xs => (Ra.ok (y :: xs), p.2)
        | .ex e => (.ex e, p.2)) = some (r, C') → ∀ v, SvAt E F' as v y → rA E B W tru ca σ H' fun xs H2 => QA (v :: xs) H2 := fun y e v a => by
      cases q2 : ca G C1 with
      | none => rw [q2] at e; cases e
      | some p =>
        obtain ⟨r2, C2⟩ := p
        rw [q2] at e
        refine ⟨F', as, G, C1, r2, C2, w, sr.mv s (List.prefix_refl _), trivial, q2, fun F2 H2 s2 w2 => ?_⟩
        cases r2 with
        | ex er => cases e; exact po F2 H2 (same_tr s s2) w2
        | ok xs => cases e; exact fun vs a2 => po F2 H2 (same_tr s s2) w2 (v :: vs) (.cons (a.mv s2 (List.prefix_refl _)) a2)
    cases x with
    | ex er => cases e; exact po F' H' s w
    | v d => exact go (.v d) e
    | c i => exact go (.c i) e
    | n o => cases e
theorem av_nil : PA X [] (rA E B W tru aNil) := PA.weak pa_nil fun _ _ _ h => rA_nil h
theorem av_cons (ha : PE X e (rE E B W c)) (hr : PA X es (rA E B W tru ca)) (hs : starEach (e :: es) X.env = (false, eval e X.env) :: starEach es X.env := by rfl) : PA X (e :: es) (rA E B W tru (aCons c ca)) :=
  PA.weak (pa_cons ha hr hs) fun _ _ _ h => rA_cons mo_tru h
theorem rF_ba {k : Sl → List Sv → Cs → Ro} (mo : Mo Φ) (h : rF E B W Φ (fun G C => ba (ca G C) (k G)) σ H Q) : rA E B W tru ca σ H fun vs H1 => ∃ xs : List Sv, rF E B W (fun F as => Φ F as ∧ SvsAt E F as vs xs) (fun G C => k G xs C) σ H1 Q := by
  obtain ⟨F, as, G, C, r, C', wd, sr, ph, e, po⟩ := h
  have e : ba (ca G C) (k G) = some (r, C') := e
  cases q : ca G C with
  | none => rw [q] at e; cases e
  | some p =>
    obtain ⟨x, C1⟩ := p
    rw [q] at e
    refine ⟨F, as, G, C, x, C1, wd, sr, trivial, q, fun F' H' s w => ?_⟩
    cases x with
    | ex er => cases e; exact po F' H' s w
    | ok xs => exact fun v a => ⟨xs, F', as, G, C1, r, C', w, sr.mv s (List.prefix_refl _), ⟨mo F F' as s ph, a⟩, e, po.imp s⟩
theorem mo_ands {Φ : Ph} {vs : List V} {xs : List Sv} (m : Mo Φ) : Mo fun F as => Φ F as ∧ SvsAt E F as vs xs := fun F F' as s h => ⟨m F F' as s h.1, h.2.mv s (List.prefix_refl _)⟩
theorem rA_imp {QA QB : List V → Hp → Prop} (h : rA E B W Φ ca σ H QA) (k : ∀ v H1, QA v H1 → QB v H1) : rA E B W Φ ca σ H QB := by
  obtain ⟨F, as, G, C, r, C', wd, sr, ph, e, po⟩ := h
  refine ⟨F, as, G, C, r, C', wd, sr, ph, e, fun F' H' s w => ?_⟩
  have po := po F' H' s w
  cases r with
  | ex er => exact po
  | ok xs => exact fun vs a => k _ _ (po vs a)
/-! ### what the arguments are -/
def vals : List Sv → Option (List D)
  | [] => some []
  | .v d :: r => (vals r).map (d :: ·)
  | .c _ :: _ => none
def peeks (C : Cs) : List Sv → Option (List D)
  | [] => some []
  | x :: r => (peek C x).bind fun d => (peeks C r).map (d :: ·)
theorem vals_at {F : Hp} {as : List Addr} : ∀ {vs : List V} {xs : List Sv} {ds : List D}, SvsAt E F as vs xs → vals xs = some ds → Ats E F vs ds
  | _, _, _, .nil, e => by cases e; exact .nil
  | _, _, _, .cons (x := .c k) h r, e => by cases e
  | _, _, _, .cons (x := .v d) (xs := xs) h r, e => by
    have e : (vals xs).map (d :: ·) = some _ := e
    cases q : vals xs with
    | none => rw [q] at e; cases e
    | some ds => rw [q] at e; cases e; exact .cons h (vals_at r q)
theorem peeks_at {F : Hp} {as : List Addr} {C : Cs} (w : Wd E B H F as C) : ∀ {vs : List V} {xs : List Sv} {ds : List D}, SvsAt E F as vs xs → peeks C xs = some ds → Pks E F H vs ds
  | _, _, _, .nil, e => by cases e; exact .nil
  | _, _, _, .cons (x := x) (xs := xs) h r, e => by
    have e : ((peek C x).bind fun d => (peeks C xs).map (d :: ·)) = some _ := e
    cases q1 : peek C x with
    | none => rw [q1] at e; cases e
    | some d =>
      rw [q1] at e
      have e : (peeks C xs).map (d :: ·) = some _ := e
      cases q2 : peeks C xs with
      | none => rw [q2] at e; cases e
      | some ds => rw [q2] at e; cases e; exact .cons (peek_pk w h q1) (peeks_at w r q2)
/-! ### displays -/
def few (ds : List D) : Bool := decide (ds.length ≤ 100000)
theorem few_line {ds : List D} (h : few ds = true) : ds.length ≤ sizeLine := Nat.le_trans (of_decide_eq_true h) (by decide)
def cTup (ca : CA) : CE := fun G C => ba (ca G C) fun xs C1 => out ((vals xs).bind fun ds => if few ds = true then some (.v (.tup ds)) else none) C1
def cLst (ca : CA) : CE := fun G C => ba (ca G C) fun xs C1 => out ((vals xs).bind fun ds => if few ds = true then some (.n (.lst ds)) else none) C1
theorem ev_tup {x1} (h : PA X es (rA E B W tru ca)) : PE X (.Tuple es x1 pos) (rE E B W (cTup ca)) := PE.weak (pe_tupF h) fun σ H Q h => rA_imp (rF_ba mo_tru h) fun vs H1 ⟨xs, h1⟩ => by
  obtain ⟨F, as, G, C, z, wd, sr, ⟨_, ax⟩, e, k⟩ := rF_out h1
  cases q : vals xs with
  | none => rw [q] at e; cases e
  | some ds =>
    rw [q] at e
    have a := vals_at ax q
    by_cases f : few ds = true
    · have e : (if few ds = true then some (Rd1.v (.tup ds)) else none) = some z := e
      rw [if_pos f] at e
      cases e
      refine ⟨by rw [a.len]; exact few_line f, fun p o t hp => k _ _ _ (Gr.newF wd.sub hp) (.tup sq_new (a.mv (.of (Same.newG ?_))) (tf_new t))⟩
      cases qq : F p with
      | none => rfl
      | some u => rw [wd.sub p u qq] at hp; cases hp
    · have e : (if few ds = true then some (Rd1.v (.tup ds)) else none) = some z := e
      rw [if_neg f] at e
      cases e
theorem ev_lst (h : PA X es (rA E B W tru ca)) : PE X (.List es pos) (rE E B W (cLst ca)) := PE.weak (pe_lst h) fun σ H Q h => rA_imp (rF_ba mo_tru h) fun vs H1 ⟨xs, h1⟩ => by
  obtain ⟨F, as, G, C, z, wd, sr, ⟨_, ax⟩, e, k⟩ := rF_out h1
  cases q : vals xs with
  | none => rw [q] at e; cases e
  | some ds =>
    rw [q] at e
    have a := vals_at ax q
    have e : (if few ds = true then some (Rd1.n (.lst ds)) else none) = some z := e
    by_cases f : few ds = true
    · rw [if_pos f] at e
      cases e
      refine ⟨by rw [a.len]; exact few_line f, fun p hp => k F _ _ (Gr.newH wd.sub hp) ⟨p, _, rfl, hp, upd_same, ?_, vs, rfl, a⟩⟩
      cases qq : F p with
      | none => rfl
      | some u => rw [wd.sub p u qq] at hp; cases hp
    · rw [if_neg f] at e
      cases e
/-! ### a built-in called -/
def cCall (f : List D → Option Rd1) (ca : CA) : CE := fun G C => ba (ca G C) fun xs C1 => out ((peeks C1 xs).bind f) C1
theorem rE_call {f : List D → Option Rd1} (h : rE E B W (cCall f ca) σ H Q) : rA E B W tru ca σ H fun vs H1 => rDs E f vs H1 Q := rA_imp (rF_ba mo_tru h) fun vs H1 ⟨xs, h1⟩ => by
  obtain ⟨F, as, G, C, z, wd, sr, ⟨_, ax⟩, e, k⟩ := rF_out h1
  cases q : peeks C xs with
  | none => rw [q] at e; cases e
  | some ds => rw [q] at e; exact ⟨F, ds, z, wd.sub, peeks_at wd ax q, e, k⟩
theorem ev_callB {f : List D → Option Rd1} {x : Str} {id : String} {p : Pos} (hc : CallD X E (.builtin id) f) (hg : Gl X x) (hm : X.mg x = none) (hv : bootBuiltins x = some (.builtin id)) (ha : PA X (e :: es) (rA E B W tru ca)) (hn : x ≠ "__name__" := by decide) (hdb : (x == ("__debug__" : Str)) = false := by decide)
    (he : starEach (e :: es) X.env = (false, eval e X.env) :: starEach es X.env := by rfl) (hpl : (backTo pos (starEach es X.env)).any (·.1) = false := by rfl) : PE X (.Call (.Name x p) (e :: es) [] pos) (rE E B W (cCall f ca)) :=
  PE.weak (pe_callB hc hg hm hv ha hn hdb he hpl) fun _ _ _ h => rE_call h
theorem ev_callTy {f : List D → Option Rd1} {x : Str} {T : String} {p : Pos} (hc : CallD X E (.type T) f) (hg : Gl X x) (hm : X.mg x = none) (hv : bootBuiltins x = some (.type T)) (ha : PA X (e :: es) (rA E B W tru ca)) (hn : x ≠ "__name__" := by decide) (hdb : (x == ("__debug__" : Str)) = false := by decide)
    (he : starEach (e :: es) X.env = (false, eval e X.env) :: starEach es X.env := by rfl) (hpl : (backTo pos (starEach es X.env)).any (·.1) = false := by rfl) : PE X (.Call (.Name x p) (e :: es) [] pos) (rE E B W (cCall f ca)) :=
  PE.weak (pe_callTy hc hg hm hv ha hn hdb he hpl) fun _ _ _ h => rE_call h
/-! ### defs -/
inductive Rv where
  | ok (d : D) | ex (e : Er)
def Rv.rs : Rv → Rs
  | .ok d => .v d
  | .ex e => .ex e
/-- what a def is given to stand on -/
structure Pre (E : Ev) (F H : Hp) : Prop where
  tab : LamX.Tabs E.T H
  nt : ∀ a o, F a = some o → NT o
theorem Wd.pr {E : Ev} {B : Bs} {H F : Hp} {as : List Addr} {C : Cs} (w : Wd E B H F as C) : Pre E F H := ⟨w.tab, w.nt⟩
/-- what a def promises that changes nothing -/
def spP (E : Ev) (n : Nat) (m : List D → Option Rv) : Sp := fun vs H Q Ex => ∃ F ds r, ds.length = n ∧ Same F H ∧ Pre E F H ∧ Ats E F vs ds ∧ m ds = some r ∧ match r with
  | .ok d => ∀ F' H' v, Gr E F H F' H' → At E F' v d → Q v H'
  | .ex e => ∀ F' H' cls dx, Gr E F H F' H' → ErAt E F' H' cls dx e → Ex cls dx H'
def scal : D → Bool
  | .non => true
  | .bl _ => true
  | .int _ => true
  | .str _ => true
  | _ => false
theorem scal_at {d : D} (h : scal d = true) {F F' : Hp} {v : V} (a : At E F v d) : At E F' v d := by
  cases a with
  | non => exact .non
  | bl b => exact .bl b
  | int i => exact .int i
  | str x => exact .str x
  | _ => cases h
def cFn (m : List D → Option Rv) (ca : CA) : CE := fun G C => ba (ca G C) fun xs C1 => ((vals xs).bind m).map fun r => (r.rs, C1)
/-- with a cell among the arguments, looked at: what comes is a plain value -/
def cFnS (m : List D → Option Rv) (ca : CA) : CE := fun G C => ba (ca G C) fun xs C1 => ((peeks C1 xs).bind m).bind fun r => match r with
  | .ok d => if scal d = true then some (.v d, C1) else none
  | .ex (.mk c none) => some (.ex (.mk c none), C1)
  | _ => none
theorem rE_fn {n : Nat} {m : List D → Option Rv} (hn : ∀ ds r, m ds = some r → ds.length = n) (h : rE E B W (cFn m ca) σ H Q) : tCall (spP E n m) [] (WE W σ) (rA E B W tru ca) σ H Q := rA_imp (rF_ba mo_tru h) fun vs H1 ⟨xs, h1⟩ => by
  obtain ⟨F, as, G, C, r, C', wd, sr, ⟨_, ax⟩, e, po⟩ := h1
  cases q : vals xs with
  | none => rw [q] at e; cases e
  | some ds =>
    rw [q] at e
    have e : (m ds).map (fun r => (r.rs, C)) = some (r, C') := e
    cases q2 : m ds with
    | none => rw [q2] at e; cases e
    | some rv =>
      rw [q2] at e
      cases e
      refine ⟨F, ds, rv, hn ds rv q2, wd.sub, wd.pr, by rw [List.append_nil]; exact vals_at ax q, q2, ?_⟩
      cases rv with
      | ok d => exact fun F' H' v g a => po.back (fun _ z => by cases z) g.f (wd.gr g) a
      | ex er => exact fun F' H' cls dx g a => po.ex g.f (wd.gr g) a
theorem WE_eq {cls : Value} {d : Option Addr} {H : Hp} : WE W σ cls d H = W cls d σ H := rfl
end
end TL
set_option Elab.async false
set_option linter.all false
set_option maxRecDepth 100000
set_option maxHeartbeats 1000000
/-! Ud: statements; defs from their bodies; calls of defs that draw. -/
namespace TL
open PySem PySem.Spec PyProof.Rows L2 Gd
inductive Out where
  | nx | rt (d : D) | bk | ct | ex (e : Er)
abbrev So := Option (Out × Sl × Cs)
abbrev CS := Sl → Cs → So
def PoS (E : Ev) (B : Bs) (W : WX) (F : Hp) (as : List Addr) (D : Ends) (G' : Sl) (C : Cs) (o : Out) : Prop :=
  ∀ F' H' as' σ', Sm F F' → as <+: as' → Wd E B H' F' as' C → Sr E F' as' σ' G' → match o with
    | .nx => D.nx σ' H'
    | .rt d => ∀ v, At E F' v d → D.rt v H'
    | .bk => D.bk σ' H'
    | .ct => D.ct σ' H'
    | .ex e => ∀ cls dx, ErAt E F' H' cls dx e → W cls dx σ' H'
def rS (E : Ev) (B : Bs) (W : WX) (c : CS) : TS := fun D σ H => ∃ F as G C o G' C', Wd E B H F as C ∧ Sr E F as σ G ∧ c G C = some (o, G', C') ∧ PoS E B W F as D G' C' o
theorem PoS.imp {E : Ev} {B : Bs} {W : WX} {F F1 : Hp} {as as1 : List Addr} {D : Ends} {G' : Sl} {C : Cs} {o : Out} (h : PoS E B W F as D G' C o) (s : Sm F F1) (p : as <+: as1) : PoS E B W F1 as1 D G' C o :=
  fun F' H' as' σ' s' p' w sr => h F' H' as' σ' (s.tr s') (p.trans p') w sr
/-! ### the combinators -/
def sNil : CS := fun G C => some (.nx, G, C)
def sSeq (a b : CS) : CS := fun G C => match a G C with
  | some (.nx, G1, C1) => b G1 C1
  | r => r
/-- an expression, then what is done with it -/
def sv (r : Ro) (G : Sl) (k : Sv → Cs → So) : So := match r with
  | some (.ex e, C) => some (.ex e, G, C)
  | some (.v d, C) => k (.v d) C
  | some (.c i, C) => k (.c i) C
  | _ => none
def sExpr (c : CE) : CS := fun G C => sv (c G C) G fun _ C1 => some (.nx, G, C1)
def rtS (x : Sv) (G : Sl) (C : Cs) : So := match x with
  | .v d => some (.rt d, G, C)
  | .c _ => none
def sRet (c : CE) : CS := fun G C => sv (c G C) G fun x C1 => rtS x G C1
def sRetN : CS := fun G C => some (.rt .non, G, C)
def onS (x : Sv) (t f : So) : So := match x with
  | .v (.bl true) => t
  | .v (.bl false) => f
  | _ => none
def sIf (t : CE) (a b : CS) : CS := fun G C => sv (t G C) G fun x C1 => onS x (a G C1) (b G C1)
def sSet (i : Nat) (c : CE) : CS := fun G C => sv (c G C) G fun x C1 => some (.nx, G.set i (some x), C1)
/-- something new, kept as a cell -/
def sCel (i : Nat) (c : CE) : CS := fun G C => match c G C with
  | some (.ex e, C1) => some (.ex e, G, C1)
  | some (.n o, C1) => some (.nx, G.set i (some (.c C1.length)), C1 ++ [some o])
  | _ => none
/-- the cell in slot i is frozen -/
def sFrz (nb : Nat) (i : Nat) : CS := fun G C => match G[i]? with
  | some (some (.c k)) => match C[k]? with
    | some (some c) => if nb ≤ k then some (.nx, G.set i (some (.v c.d)), C.set k none) else none
    | _ => none
  | _ => none
section
variable {X : Cx} {E : Ev} {B : Bs} {W : WX} {pos : Pos} {e : Expr} {st : Stmt} {sts : List Stmt} {c ce : CE} {ca cb : CS} {σ : L2.St} {H : Hp} {D : Ends}
theorem rS_sv {k : Sl → Sv → Cs → So} (h : rS E B W (fun G C => sv (c G C) G (k G)) D σ H) : rE E B W c σ H fun v H1 => ∃ x : Sv, ∃ F as G C o G' C', Wd E B H1 F as C ∧ Sr E F as σ G ∧ SvAt E F as v x ∧ k G x C = some (o, G', C') ∧ PoS E B W F as D G' C' o := by
  obtain ⟨F, as, G, C, o, G', C', wd, sr, e, po⟩ := h
  have e : sv (c G C) G (k G) = some (o, G', C') := e
  cases q : c G C with
  | none => rw [q] at e; cases e
  | some p =>
    obtain ⟨x, C1⟩ := p
    rw [q] at e
    refine ⟨F, as, G, C, x, C1, wd, sr, trivial, q, fun F' H' s w => ?_⟩
    cases x with
    | ex er => cases e; exact fun cls dx a => po F' H' as σ s (List.prefix_refl _) w (sr.mv s (List.prefix_refl _)) cls dx a
    | v d => exact fun v a => ⟨.v d, F', as, G, C1, o, G', C', w, sr.mv s (List.prefix_refl _), a, e, po.imp s (List.prefix_refl _)⟩
    | c i => exact fun v a => ⟨.c i, F', as, G, C1, o, G', C', w, sr.mv s (List.prefix_refl _), a, e, po.imp s (List.prefix_refl _)⟩
    | n o => cases e
theorem sv_nil : PSs X [] (rS E B W sNil) := PSs.weak pss_nil fun D σ H ⟨F, as, G, C, o, G', C', wd, sr, e, po⟩ => by
  cases e
  exact po F H as σ (Sm.refl F) (List.prefix_refl _) wd sr
theorem rS_seq (h : rS E B W (sSeq ca cb) D σ H) : tSeq (rS E B W ca) (rS E B W cb) D σ H := by
  obtain ⟨F, as, G, C, o, G', C', wd, sr, e, po⟩ := h
  have e : (match ca G C with
    | some (.nx, G1, C1) => cb G1 C1
    | r => r) = some (o, G', C') := e
  cases q : ca G C with
  | none => rw [q] at e; cases e
  | some p =>
    obtain ⟨o1, G1, C1⟩ := p
    rw [q] at e
    refine ⟨F, as, G, C, o1, G1, C1, wd, sr, q, fun F' H' as' σ' s p w sr' => ?_⟩
    cases o1 with
    | nx => exact ⟨F', as', G1, C1, o, G', C', w, sr', e, po.imp s p⟩
    | rt d => cases e; exact po F' H' as' σ' s p w sr'
    | bk => cases e; exact po F' H' as' σ' s p w sr'
    | ct => cases e; exact po F' H' as' σ' s p w sr'
    | ex er => cases e; exact po F' H' as' σ' s p w sr'
theorem sv_cons (h1 : PS X st (rS E B W ca)) (h2 : PSs X sts (rS E B W cb)) : PSs X (st :: sts) (rS E B W (sSeq ca cb)) := PSs.weak (pss_cons h1 h2) fun _ _ _ h => rS_seq h
theorem sv_one (h1 : PS X st (rS E B W ca)) : PSs X [st] (rS E B W ca) := pss_one h1
/-- ahead of a block a cell is frozen -/
theorem sv_frz {i : Nat} (h : PSs X sts (rS E B W cb)) : PSs X sts (rS E B W (sSeq (sFrz B.own.length i) cb)) := PSs.weak h fun D σ H ⟨F, as, G, C, o, G', C', wd, sr, e, po⟩ => by
  have e : (match sFrz B.own.length i G C with
    | some (.nx, G1, C1) => cb G1 C1
    | r => r) = some (o, G', C') := e
  unfold sFrz at e
  cases q : G[i]? with
  | none => simp only [q] at e; cases e
  | some oo =>
    cases oo with
    | none => simp only [q] at e; cases e
    | some x =>
      cases x with
      | v d => simp only [q] at e; cases e
      | c k =>
        simp only [q] at e
        cases q2 : C[k]? with
        | none => simp only [q2] at e; cases e
        | some oc =>
          cases oc with
          | none => simp only [q2] at e; cases e
          | some c =>
            simp only [q2] at e
            by_cases hk : B.own.length ≤ k
            · rw [if_pos hk] at e
              simp only at e
              obtain ⟨v, h1, a, h2, rfl⟩ := sr.at_ i _ q
              obtain ⟨fa, ho, h3, h4⟩ := wd.at_ k a c h2 q2
              have nb : B.H0 a = none := by
                rcases wd.fresh a (List.mem_of_getElem? h2) with z | z
                · exfalso
                  obtain ⟨j, ej⟩ := List.mem_iff_getElem?.mp z
                  obtain ⟨t, ht⟩ := wd.pre
                  have lj : j < B.own.length := (List.getElem?_eq_some_iff.mp ej).1
                  have : as[j]? = some a := by rw [← ht, List.getElem?_append_left lj]; exact ej
                  have := nodup_at wd.nd this h2
                  omega
                · exact z
              have wd1 : Wd E B H F as (C.set k none) := ⟨wd.sub, wd.f0, wd.keep, wd.th0, wd.tab, wd.nt, wd.new, by rw [List.length_set]; exact wd.len, wd.nd, wd.pre, wd.fresh, wd.there, fun j b c2 e1 e2 => by
                by_cases z : k = j
                · subst z
                  rw [List.getElem?_set_self (by rw [← wd.len]; exact (List.getElem?_eq_some_iff.mp h2).1)] at e2
                  cases e2
                · rw [List.getElem?_set_ne z] at e2
                  exact wd.at_ j b c2 e1 e2⟩
              obtain ⟨w2, s⟩ := wd1.frozen h3 (nt_ho h4) nb fun j ej c2 ec => by
                have := nodup_at wd.nd ej h2
                subst this
                rw [List.getElem?_set_self (by rw [← wd.len]; exact (List.getElem?_eq_some_iff.mp h2).1)] at ec
                cases ec
              have at_ : At E (upd F a ho) (.ref a) c.d := (h4.mv s).at upd_same
              have sr2 : Sr E (upd F a ho) as σ (G.set i (some (.v c.d))) := by
                have z := (sr.mv s (List.prefix_refl _)).set i (v := .ref a) (x := .v c.d) at_
                have e1 : σ.set i (some (.ref a)) = σ := by
                  apply List.ext_getElem?
                  intro j
                  by_cases z : i = j
                  · subst z; rw [List.getElem?_set_self (List.getElem?_eq_some_iff.mp h1).1, h1]
                  · rw [List.getElem?_set_ne z]
                rw [e1] at z
                exact z
              exact ⟨upd F a ho, as, _, _, o, G', C', w2, sr2, e, po.imp s (List.prefix_refl _)⟩
            · rw [if_neg hk] at e
              cases e
theorem sv_expr (he : PE X e (rE E B W c)) (hs : swapsWith e none pos.line X.env = pure false := by rfl) : PS X (.Expr e pos) (rS E B W (sExpr c)) := PS.weak (ps_expr he hs) fun D σ H h => rF_imp (rS_sv h) fun v H1 ⟨x, F, as, G, C, o, G', C', wd, sr, _, e, po⟩ => by
  cases e
  exact po F H1 as σ (Sm.refl F) (List.prefix_refl _) wd sr
theorem sv_ret (he : PE X e (rE E B W c)) : PS X (.Return (some e) pos) (rS E B W (sRet c)) := PS.weak (ps_ret he) fun D σ H h => rF_imp (rS_sv h) fun v H1 ⟨x, F, as, G, C, o, G', C', wd, sr, a, e, po⟩ => by
  cases x with
  | c k => cases e
  | v d => cases e; exact po F H1 as σ (Sm.refl F) (List.prefix_refl _) wd sr v a
theorem sv_retN : PS X (.Return none pos) (rS E B W sRetN) := PS.weak ps_retN fun D σ H ⟨F, as, G, C, o, G', C', wd, sr, e, po⟩ => by
  cases e
  exact po F H as σ (Sm.refl F) (List.prefix_refl _) wd sr .non .non
theorem sv_pass : PS X (.Pass pos) (rS E B W sNil) := PS.weak ps_pass fun D σ H ⟨F, as, G, C, o, G', C', wd, sr, e, po⟩ => by
  cases e
  exact po F H as σ (Sm.refl F) (List.prefix_refl _) wd sr
theorem sv_set {i : Nat} {x : Str} {pos' : Pos} (h : PS X (.Assign [.Name x pos'] e pos) (tAsg (rE E B W c) (gName i))) : PS X (.Assign [.Name x pos'] e pos) (rS E B W (sSet i c)) := PS.weak h fun D σ H h => rF_imp (rS_sv h) fun v H1 ⟨x, F, as, G, C, o, G', C', wd, sr, a, e, po⟩ => by
  cases e
  exact po F H1 as _ (Sm.refl F) (List.prefix_refl _) wd (sr.set i a)
theorem sv_cel {i : Nat} {x : Str} {pos' : Pos} (h : PS X (.Assign [.Name x pos'] e pos) (tAsg (rE E B W c) (gName i))) : PS X (.Assign [.Name x pos'] e pos) (rS E B W (sCel i c)) := PS.weak h fun D σ H ⟨F, as, G, C, o, G', C', wd, sr, e, po⟩ => by
  unfold sCel at e
  cases q : c G C with
  | none => simp only [q] at e; cases e
  | some p =>
    obtain ⟨r, C1⟩ := p
    simp only [q] at e
    refine ⟨F, as, G, C, r, C1, wd, sr, trivial, q, fun F' H' s w => ?_⟩
    cases r with
    | v d => cases e
    | c k => cases e
    | ex er => cases e; exact fun cls dx a => po F' H' as σ s (List.prefix_refl _) w (sr.mv s (List.prefix_refl _)) cls dx a
    | n o =>
      cases e
      rintro v ⟨p, ho, rfl, h1, h2, h3, h4, h5⟩
      have w2 := w.cell h1 h2 h3 h4 h5
      refine po F' H' (as ++ [p]) _ s (List.prefix_append _ _) w2 ?_
      refine (sr.mv s (List.prefix_append _ _)).set i (x := .c C1.length) ⟨p, ?_, rfl⟩
      rw [← w.len, List.getElem?_append_right (Nat.le_refl _), Nat.sub_self]
      rfl
theorem rS_if {t : CE} (h : rS E B W (sIf t ca cb) D σ H) : rT E B W t σ H fun b H1 => if b = true then rS E B W ca D σ H1 else rS E B W cb D σ H1 := by
  obtain ⟨F, as, G, C, o, G', C', wd, sr, e, po⟩ := h
  have e : sv (t G C) G (fun x C1 => onS x (ca G C1) (cb G C1)) = some (o, G', C') := e
  cases q : t G C with
  | none => rw [q] at e; cases e
  | some p =>
    obtain ⟨x, C1⟩ := p
    rw [q] at e
    refine ⟨F, as, G, C, x, C1, wd, sr, q, ?_⟩
    have nxt : ∀ (c2 : CS), c2 G C1 = some (o, G', C') → ∀ F' H', Sm F F' → Wd E B H' F' as C1 → rS E B W c2 D σ H' := fun c2 e2 F' H' s w => ⟨F', as, G, C1, o, G', C', w, sr.mv s (List.prefix_refl _), e2, po.imp s (List.prefix_refl _)⟩
    cases x with
    | ex er => cases e; exact fun F' H' cls dx s w a => po F' H' as σ s (List.prefix_refl _) w (sr.mv s (List.prefix_refl _)) cls dx a
    | c k => cases e
    | n o => cases e
    | v d =>
      cases d with
      | bl b =>
        cases b with
        | true => exact fun F' H' s w => nxt ca e F' H' s w
        | false => exact fun F' H' s w => nxt cb e F' H' s w
      | _ => cases e
theorem sv_if {t : Expr} {ct : CE} {a b : List Stmt} (ht : PT X t (rT E B W ct)) (ha : PSs X a (rS E B W ca)) (hb : PSs X b (rS E B W cb)) : PS X (.If t a b pos) (rS E B W (sIf ct ca cb)) := PS.weak (ps_if ht ha hb) fun _ _ _ h => rS_if h
end
/-! ### a def, from its body -/
section
variable {P : Program} {w : World} {K : PySem.W.Frag} {mg : Str → Option Value} {base : Heap}
/-- as def_ok, for a def that may raise -/
theorem def_okX {CX : CXT} {x qual : Str} {st : Stmt} {f : Addr} {fd : FuncData} {N ps : List Str} {k : Nat} {sp : Sp} (F : Fun K x qual st f fd) (S : FnScope N ps (defScope st)) (hl : ∀ us H Q E, sp us H Q E → us.length = ps.length)
    (hb : ∀ (cd : Value) (B : Around) (fs : List Env) (t : Shared) (H : Hp) (us : List V) (Q : VK) (E : XK), Room k (B.deeper (envOfC qual (defScope st) t.heap.objs.size f cd)) → B.guards = some [] → sp us H Q E →
      ∃ r, PSs (cxOf CX P w K mg base N qual (defScope st) f cd B fs t H E) (defBody st) r ∧ r { nx := fun _ G => Q .non G, rt := Q } (start N us) H) : FnG P w K mg base CX (k + 1) f fd ps sp := by
  obtain ⟨oc, od, kV, doc, pm, an, cd, ct, osl, rfl, lk, hc⟩ := F.ex
  constructor
  · exact hl
  intro B fs t H as ws us Q E hr hg e0 hbd hv hq
  have e0b := e0.bs
  have inK : K.In t.heap := e0.mod.kin.keeps fun b o z => (e0b b o z).1
  have few := hl _ _ _ _ hq
  refine codeAny_call_function hr.depth (inK _ _ lk) rfl S.co S.gen rfl (PySem.W.codeRec_of inK hc) (hbd _ _ _ _ ?_)
  apply wpAny_newFunctionEnv_cells S.kind
  · rintro ⟨n, u⟩ hy
    cases S.par n (List.of_mem_zip hy).1 with
    | inl z => exact Or.inl z
    | inr z => exact Or.inr ⟨z, PySem.W.cellsFrom_some _ _ _ (Or.inl z)⟩
  intro env he t1 hx
  subst he
  constructor
  · exact Heap.NoLimit.keeps (e0.mod.nolimit.keeps fun b o z => (e0b b o z).1) hx.toInCall.keep
  apply codeAny_func
  obtain ⟨r, hpss, hrd⟩ := hb cd B fs t H us Q E (hr.deeper _) hg hq
  have J := inv_start (CX := CX) (E := E) S hr.hd e0 few hv hx
  apply wpAny_mono (hpss.run [] t1 (start N us) H _ J hrd)
  · intro fl t2 h2
    cases fl with
    | next =>
      obtain ⟨σ2, G, J2, z⟩ := h2
      exact ⟨V.non, G, J2.os, J2.bare, J2.base, J2.hok, (rfl : Value.none = Value.none), z⟩
    | ret u =>
      obtain ⟨v, σ2, G, J2, rv, z⟩ := h2
      exact ⟨v, G, J2.os, J2.bare, J2.base, J2.hok, rv, z⟩
    | brk => exact (h2.elim fun _ h3 => h3.elim fun _ h4 => h4.2).elim
    | cont => exact (h2.elim fun _ h3 => h3.elim fun _ h4 => h4.2).elim
  · intro _ _ z
    exact z
def slots (n : Nat) (ds : List D) : Sl := ds.map (fun d => some (.v d)) ++ List.replicate (n - ds.length) none
def outP : So → Option Rv
  | some (.rt d, _, _) => some (.ok d)
  | some (.nx, _, _) => some (.ok .non)
  | some (.ex e, _, _) => some (.ex e)
  | _ => none
/-- the def that a body makes: n slots, a parameters -/
def runP (n a : Nat) (c : CS) (ds : List D) : Option Rv := if ds.length = a then outP (c (slots n ds) []) else none
theorem slots_sr {E : Ev} {F : Hp} {as : List Addr} {vs : List V} {ds : List D} {N : List Str} (h : Ats E F vs ds) : Sr E F as (L2.start N vs) (slots N.length ds) := by
  refine ⟨by unfold L2.start slots; rw [List.length_append, List.length_append, List.length_map, List.length_map, h.len, List.length_replicate, List.length_replicate], fun i x e => ?_⟩
  unfold slots at e
  unfold L2.start
  by_cases hi : i < ds.length
  · rw [List.getElem?_append_left (by rw [List.length_map]; exact hi), List.getElem?_map] at e
    cases q : ds[i]? with
    | none => rw [q] at e; cases e
    | some d =>
      rw [q] at e
      cases e
      obtain ⟨v, e1, a⟩ := h.get q
      refine ⟨v, ?_, a⟩
      rw [List.getElem?_append_left (by rw [List.length_map, h.len]; exact hi), List.getElem?_map, e1]
      rfl
  · rw [List.getElem?_append_right (by rw [List.length_map]; omega), List.getElem?_replicate] at e
    split at e <;> cases e
theorem wd_start {E : Ev} {F H : Hp} (s : Same F H) (p : Pre E F H) : Wd E ⟨er H, F, []⟩ H F [] [] where
  sub := s
  f0 := Sm.refl F
  keep := fun _ _ e _ _ _ => (er_some.mp e).1
  th0 := fun _ h => th_of h
  tab := p.tab
  nt := p.nt
  new := fun a o e z => by
    have z : F a = none := z
    rw [e] at z; cases z
  len := rfl
  nd := List.nodup_nil
  pre := List.prefix_refl _
  fresh := fun a h => by cases h
  there := fun a h => by cases h
  at_ := fun k a c e => by cases e
theorem wd_gr {E : Ev} {F H F' H' : Hp} {as : List Addr} {C : Cs} (w : Wd E ⟨er H, F, []⟩ H' F' as C) : Gr E F H F' H' :=
  ⟨w.sub, w.f0, fun a o e z nt => w.keep a o (er_some.mpr ⟨e, nt⟩) (by simp) z nt, w.new, fun a h => w.th0 a h.er, fun _ => w.tab, fun _ => w.nt⟩
theorem spP_len {E : Ev} {n : Nat} {m : List D → Option Rv} {vs : List V} {H : Hp} {Q : VK} {Ex : XK} (h : spP E n m vs H Q Ex) : vs.length = n := by
  obtain ⟨F, ds, r, hn, _, _, a, _⟩ := h
  rw [a.len, hn]
/-- the body's reading, from the promise -/
theorem body_P {E : Ev} {N : List Str} {a : Nat} {c : CS} {vs : List V} {H : Hp} {Q : VK} {Ex : XK} (h : spP E a (runP N.length a c) vs H Q Ex) : ∃ F, rS E ⟨er H, F, []⟩ (fun cls d _ H' => Ex cls d H') c { nx := fun _ G => Q .non G, rt := Q } (L2.start N vs) H := by
  obtain ⟨F, ds, r, hn, s, pr, at_, e, po⟩ := h
  refine ⟨F, F, [], slots N.length ds, [], ?_⟩
  unfold runP at e
  rw [if_pos hn] at e
  cases q : c (slots N.length ds) [] with
  | none => rw [q] at e; cases e
  | some p =>
    obtain ⟨o, G', C'⟩ := p
    rw [q] at e
    refine ⟨o, G', C', wd_start s pr, slots_sr at_, rfl, fun F' H' as' σ' s' p' w sr' => ?_⟩
    cases o with
    | nx => cases e; exact po F' H' .non (wd_gr w) .non
    | rt d => cases e; exact fun v a => po F' H' v (wd_gr w) a
    | bk => cases e
    | ct => cases e
    | ex er => cases e; exact fun cls dx a => po F' H' cls dx (wd_gr w) a
theorem ok_P {E : Ev} {x qual : Str} {st : Stmt} {f : Addr} {fd : FuncData} {N ps : List Str} {k : Nat} {c : CS} (F : Fun K x qual st f fd) (S : FnScope N ps (defScope st))
    (hb : ∀ (cdv : Value) (A : Around) (outer : List Env) (s : Shared) (H F0 : Hp) (Ex : XK), Room k (A.deeper (envOfC qual (defScope st) s.heap.objs.size f cdv)) →
      PSs (cxOf (L2.CX P w) P w K mg base N qual (defScope st) f cdv A outer s H Ex) (defBody st) (rS E ⟨er H, F0, []⟩ (fun cls d _ H' => Ex cls d H') c)) : FnOk P w K mg base (L2.CX P w) (k + 1) f fd ps (spP E ps.length (runP N.length ps.length c)) :=
  F.okX S (fun _ _ _ _ h => spP_len h) fun cdv A outer s H vs Q Ex hr h => by
    obtain ⟨F0, h⟩ := body_P h
    exact ⟨_, hb cdv A outer s H F0 Ex hr, h⟩
theorem ok_G {E : Ev} {x qual : Str} {st : Stmt} {f : Addr} {fd : FuncData} {N ps : List Str} {k : Nat} {c : CS} (F : Fun K x qual st f fd) (S : FnScope N ps (defScope st))
    (hb : ∀ (cdv : Value) (A : Around) (outer : List Env) (s : Shared) (H F0 : Hp) (Ex : XK), Room k (A.deeper (envOfC qual (defScope st) s.heap.objs.size f cdv)) → A.guards = some [] →
      PSs (cxOf (L2.CX P w) P w K mg base N qual (defScope st) f cdv A outer s H Ex) (defBody st) (rS E ⟨er H, F0, []⟩ (fun cls d _ H' => Ex cls d H') c)) : FnG P w K mg base (L2.CX P w) (k + 1) f fd ps (spP E ps.length (runP N.length ps.length c)) :=
  def_okX F S (fun _ _ _ _ h => spP_len h) fun cdv A outer s H vs Q Ex hr hg h => by
    obtain ⟨F0, h⟩ := body_P h
    exact ⟨_, hb cdv A outer s H F0 Ex hr hg, h⟩
end
end TL
set_option Elab.async false
set_option linter.all false
set_option maxRecDepth 100000
set_option maxHeartbeats 1000000
/-! Ue: calls of defs; walks: targets, for, comprehensions. -/
namespace TL
open PySem PySem.Spec PyProof.Rows L2 Gd
theorem runP_len {n a : Nat} {c : CS} {ds : List D} {r : Rv} (h : runP n a c ds = some r) : ds.length = a := by
  unfold runP at h
  by_cases q : ds.length = a
  · exact q
  · rw [if_neg q] at h; cases h
/-- a def's computation, known to want n arguments -/
structure Fm (n : Nat) (m : List D → Option Rv) : Prop where
  len : ∀ ds r, m ds = some r → ds.length = n
theorem fm_P {n a : Nat} {c : CS} : Fm a (runP n a c) := ⟨fun _ _ h => runP_len h⟩
section
variable {X : Cx} {E : Ev} {B : Bs} {W : WX} {k n : Nat} {f : Addr} {fd : FuncData} {ps : List Str} {x : Str} {p pos : Pos} {e : Expr} {es : List Expr} {ca : CA} {m : List D → Option Rv}
theorem ev_fn (Fn : FnOk X.prog X.w X.K X.mg X.base (L2.CX X.prog X.w) k f fd ps (spP E n m)) (tk : Takes X W) (fm : Fm n m) (hr : Room k X.A) (hg : Gl X x) (hm : X.mg x = some (.ref f)) (hk : PySem.W.keepIn X.K (.ref f) = true) (hb : Binds X.K fd ps [])
    (ha : PA X (e :: es) (rA E B W tru ca)) (hdb : (x == ("__debug__" : Str)) = false := by decide) (he : starEach (e :: es) X.env = (false, eval e X.env) :: starEach es X.env := by rfl) (hpl : (backTo pos (starEach es X.env)).any (·.1) = false := by rfl) :
    PE X (.Call (.Name x p) (e :: es) [] pos) (rE E B W (cFn m ca)) :=
  PE.weak (pe_callS Fn hr hg hm hk hb (fun σ => passAt tk σ) ha hdb he hpl) fun σ H Q h => rA_imp (rE_fn fm.len h) fun vs H1 z => by rw [List.append_nil] at z; exact z
/-- as call_ok, for a def that may raise -/
theorem call_okS {CX : CXT} {sp : Sp} {Ee : L2.St → XK} {t : TA} (F : FnG X.prog X.w X.K X.mg X.base CX k f fd ps sp) (hr : Room k X.A) (hgd : X.A.guards = some []) (hg : Gl X x) (hm : X.mg x = some (.ref f)) (hk : PySem.W.keepIn X.K (.ref f) = true) (hb : Binds X.K fd ps []) (hx : ∀ σ, PassesAt CX X σ (Ee σ))
    (ha : PA X (e :: es) t) (hdb : (x == ("__debug__" : Str)) = false := by decide) (h1 : starEach (e :: es) X.env = (false, eval e X.env) :: starEach es X.env := by rfl) (h2 : (backTo pos (starEach es X.env)).any (·.1) = false := by rfl) :
    PE X (.Call (.Name x p) (e :: es) [] pos) (tCallS sp Ee t) := by
  constructor
  intro pins s σ H Q I h
  refine wpAny_Call_Name_kw (ld_glob I hg hm (PySem.W.callWith_K (h₀ := X.base) I.ok.mod.kin hk ?_ h1 h2) hdb)
  refine thn (ha.run pos pins s σ H _ I h) ?_
  rintro us s1 ⟨vs, H1, J, r, q⟩
  refine ⟨J.kIn, wpAny_call ?_⟩
  have z : (us ++ []).length = ps.length := by rw [List.append_nil, ← r.length]; exact F.lenG _ _ _ _ q
  have bd := hb s1 us J.kIn z
  rw [List.append_nil] at bd
  apply codeAny_mono (F.runG X.A X.stack s1 H1 ⟨us, []⟩ us vs Q (Ee σ) hr hgd J.env0 bd r q)
  intro res s2 h3
  rcases res with u | fl
  · exact hx σ pins H1 s1 _ s2 J h3
  · cases fl with
    | ret u => exact J.after h3
    | _ => exact (show False from h3).elim
theorem ev_fnG (Fn : FnG X.prog X.w X.K X.mg X.base (L2.CX X.prog X.w) k f fd ps (spP E n m)) (tk : Takes X W) (fm : Fm n m) (hr : Room k X.A) (hgd : X.A.guards = some []) (hg : Gl X x) (hm : X.mg x = some (.ref f)) (hk : PySem.W.keepIn X.K (.ref f) = true) (hb : Binds X.K fd ps [])
    (ha : PA X (e :: es) (rA E B W tru ca)) (hdb : (x == ("__debug__" : Str)) = false := by decide) (he : starEach (e :: es) X.env = (false, eval e X.env) :: starEach es X.env := by rfl) (hpl : (backTo pos (starEach es X.env)).any (·.1) = false := by rfl) :
    PE X (.Call (.Name x p) (e :: es) [] pos) (rE E B W (cFn m ca)) :=
  PE.weak (call_okS Fn hr hgd hg hm hk hb (fun σ => passAt tk σ) ha hdb he hpl) fun σ H Q h => rA_imp (rE_fn fm.len h) fun vs H1 z => by rw [List.append_nil] at z; exact z
end
/-! ### targets -/
abbrev CT := D → Sl → Option Sl
def TgOk (E : Ev) (g : TG) (tg : CT) : Prop := ∀ (F H : Hp) (as : List Addr) (σ : L2.St) (G G1 : Sl) (v : V) (d : D) (Q : L2.St → Hp → Prop), Same F H → At E F v d → Sr E F as σ G → tg d G = some G1 → (∀ σ1, Sr E F as σ1 G1 → Q σ1 H) → g v σ H Q
def TgsOk (E : Ev) (g : TGs) (tg : List D → Sl → Option Sl) : Prop := ∀ (F H : Hp) (as : List Addr) (σ : L2.St) (G G1 : Sl) (vs : List V) (ds : List D) (Q : L2.St → Hp → Prop), Same F H → Ats E F vs ds → Sr E F as σ G → tg ds G = some G1 → (∀ σ1, Sr E F as σ1 G1 → Q σ1 H) → g vs σ H Q
def tName (i : Nat) : CT := fun d G => some (G.set i (some (.v d)))
def tsNil : List D → Sl → Option Sl := fun ds G => match ds with
  | [] => some G
  | _ => none
def tsCons (t : CT) (u : List D → Sl → Option Sl) : List D → Sl → Option Sl := fun ds G => match ds with
  | d :: r => (t d G).bind (u r)
  | _ => none
def tTupT (n : Nat) (u : List D → Sl → Option Sl) : CT := fun d G => match d with
  | .tup ds => if ds.length = n then u ds G else none
  | .pr ds => if ds.length = n then u ds G else none
  | _ => none
theorem tg_name {E : Ev} {i : Nat} : TgOk E (gName i) (tName i) := fun F H as σ G G1 v d Q s a sr e k => by
  cases e
  exact k _ (sr.set i a)
theorem tgs_nil {E : Ev} : TgsOk E gNil tsNil := fun F H as σ G G1 vs ds Q s a sr e k => by
  cases a with
  | nil => cases e; exact ⟨rfl, k σ sr⟩
  | cons _ _ => cases e
theorem tgs_cons {E : Ev} {g : TG} {gs : TGs} {t : CT} {u : List D → Sl → Option Sl} (h : TgOk E g t) (r : TgsOk E gs u) : TgsOk E (gCons g gs) (tsCons t u) := fun F H as σ G G1 vs ds Q s a sr e k => by
  cases a with
  | nil => cases e
  | cons a1 a2 =>
    rename_i v vs d ds
    have e : (t d G).bind (u ds) = some G1 := e
    cases q : t d G with
    | none => rw [q] at e; cases e
    | some G2 =>
      rw [q] at e
      exact ⟨v, vs, rfl, h F H as σ G G2 v d _ s a1 sr q fun σ1 sr1 => r F H as σ1 G2 G1 vs ds Q s a2 sr1 e k⟩
theorem tg_tup {E : Ev} {n : Nat} {gs : TGs} {u : List D → Sl → Option Sl} (r : TgsOk E gs u) : TgOk E (gTup E.K n gs) (tTupT n u) := fun F H as σ G G1 v d Q s a sr e k => by
  have go : ∀ {a xs ds}, SqT E.K F a xs → Ats E F xs ds → (if ds.length = n then u ds G else none) = some G1 → gTup E.K n gs (.ref a) σ H Q := fun {a xs ds} h a2 e => by
    by_cases hl : ds.length = n
    · rw [if_pos hl] at e
      exact ⟨a, xs, rfl, s.tupS h, by rw [a2.len, hl], r F H as σ G G1 xs ds Q s a2 sr e k⟩
    · rw [if_neg hl] at e; cases e
  cases a with
  | tup h a2 => exact go h a2 e
  | pr h a2 => exact go h a2 e
  | _ => cases e
/-! ### what is walked -/
inductive Ri where
  | ok (ds : List D) | ex (e : Er)
abbrev CI := Sl → Cs → Option (Ri × Cs)
def JOk (E : Ev) (J : It) (F : Hp) (ds : List D) : Prop := ∀ F2 H i, Sm F F2 → Same F2 H → (i < ds.length → J.go i H ∧ ∀ x H', J.yld i H x H' → ∃ d F3, ds[i]? = some d ∧ Gr E F2 H F3 H' ∧ At E F3 x d) ∧ (ds.length = i → J.stop i H)
theorem JOk.mv {E : Ev} {J : It} {F F1 : Hp} {ds : List D} (s : Sm F F1) (h : JOk E J F ds) : JOk E J F1 ds := fun F2 H i s2 sub => h F2 H i (s.tr s2) sub
def rI (E : Ev) (B : Bs) (W : WX) (c : CI) : TI := fun σ H R => ∃ F as G C r C', Wd E B H F as C ∧ Sr E F as σ G ∧ c G C = some (r, C') ∧ match r with
  | .ok ds => ∀ F' H' J, Sm F F' → Wd E B H' F' as C' → JOk E J F' ds → R J H'
  | .ex e => ∀ F' H' cls dx, Sm F F' → Wd E B H' F' as C' → ErAt E F' H' cls dx e → W cls dx σ H'
theorem PI.weak {X : Cx} {tg e : Expr} {w w' : TI} (h : PI X tg e w) (k : ∀ σ H R, w' σ H R → w σ H R) : PI X tg e w' := ⟨fun pins s σ H R I q => h.run pins s σ H R I (k σ H R q)⟩
theorem PI.or {X : Cx} {tg e : Expr} {w w' : TI} (h : PI X tg e w) (h' : PI X tg e w') : PI X tg e (fun σ H R => w σ H R ∨ w' σ H R) := ⟨fun pins s σ H R I q => q.elim (h.run pins s σ H R I) (h'.run pins s σ H R I)⟩
def sgnD (x : Str) : List D := x.cps.toList.map fun c => D.str ⟨#[c]⟩
def items : D → Option (List D)
  | .lst ds => some ds
  | .tup ds => some ds
  | .str x => some (sgnD x)
  | _ => none
def iSeq (c : CE) : CI := fun G C => match c G C with
  | some (.ex e, C1) => some (.ex e, C1)
  | some (.v d, C1) => (items d).map fun ds => (.ok ds, C1)
  | _ => none
theorem jok_list {E : Ev} {F : Hp} {a : Addr} {xs : List V} {ds : List D} (h : SqL E.K F a xs) (r : Ats E F xs ds) : JOk E (Itl E.K a) F ds := fun F2 H i s sub => by
  have h2 : SqL E.K H a xs := sub.seq (s.seq h)
  have l := r.len
  refine ⟨fun hi => ⟨⟨xs, xs[i]'(by omega), h2, List.getElem?_eq_getElem (by omega)⟩, ?_⟩, fun hi => ⟨xs, h2, by omega⟩⟩
  rintro x H' ⟨rfl, z⟩
  obtain ⟨d, e, a⟩ := r.getV (z xs h2)
  exact ⟨d, F2, e, Gr.refl sub, a.mv s⟩
theorem jok_tup {E : Ev} {F : Hp} {a : Addr} {xs : List V} {ds : List D} (h : SqT E.K F a xs) (r : Ats E F xs ds) : JOk E (Itt E.K a) F ds := fun F2 H i s sub => by
  have h2 : SqT E.K H a xs := sub.tupS (s.tupS h)
  have l := r.len
  refine ⟨fun hi => ⟨⟨xs, xs[i]'(by omega), h2, List.getElem?_eq_getElem (by omega)⟩, ?_⟩, fun hi => ⟨xs, h2, by omega⟩⟩
  rintro x H' ⟨rfl, z⟩
  obtain ⟨d, e, a⟩ := r.getV (z xs h2)
  exact ⟨d, F2, e, Gr.refl sub, a.mv s⟩
theorem jok_str {E : Ev} {F : Hp} {x : Str} : JOk E (Its x) F (sgnD x) := fun F2 H i s sub => by
  have l : (sgnD x).length = x.cps.size := by unfold sgnD; rw [List.length_map, Array.length_toList]
  refine ⟨fun hi => ⟨by show i < x.cps.size; omega, ?_⟩, fun hi => by show x.cps.size ≤ i; omega⟩
  rintro v H' ⟨rfl, c, e, rfl⟩
  refine ⟨.str ⟨#[c]⟩, F2, ?_, Gr.refl sub, .str _⟩
  unfold sgnD
  rw [List.getElem?_map, Array.getElem?_toList, e]
  rfl
section
variable {X : Cx} {E : Ev} {B : Bs} {W : WX} {tg e : Expr} {c : CE}
theorem iv_seq (hK : X.K = E.K) (he : PE X e (rE E B W c)) : PI X tg e (rI E B W (iSeq c)) := by
  refine PI.weak (PI.or (PI.or (pi_list he) (pi_tup he)) (pi_str he)) fun σ H R h => ?_
  obtain ⟨F, as, G, C, r, C', wd, sr, q, po⟩ := h
  unfold iSeq at q
  cases q1 : c G C with
  | none => simp only [q1] at q; cases q
  | some p =>
    obtain ⟨x, C1⟩ := p
    simp only [q1] at q
    cases x with
    | c k => cases q
    | n o => cases q
    | ex er =>
      cases q
      exact .inl (.inl ⟨F, as, G, C, .ex er, _, wd, sr, trivial, q1, fun F' H' s w cls dx a => po F' H' cls dx s w a⟩)
    | v d =>
      cases d with
      | lst ds =>
        cases q
        refine .inl (.inl ⟨F, as, G, C, _, _, wd, sr, trivial, q1, fun F' H' s w v a => ?_⟩)
        cases a with
        | lst h r => exact ⟨_, rfl, ⟨_, by rw [hK]; exact w.sub.seq (SqL.of h)⟩, by rw [hK]; exact po F' H' _ s w (jok_list (SqL.of h) r)⟩
      | tup ds =>
        cases q
        refine .inl (.inr ⟨F, as, G, C, _, _, wd, sr, trivial, q1, fun F' H' s w v a => ?_⟩)
        cases a with
        | tup h r => exact ⟨_, rfl, ⟨_, by rw [hK]; exact w.sub.tupS h⟩, by rw [hK]; exact po F' H' _ s w (jok_tup h r)⟩
      | str x =>
        cases q
        refine .inr ⟨F, as, G, C, _, _, wd, sr, trivial, q1, fun F' H' s w v a => ?_⟩
        cases a with
        | str _ => exact ⟨x, rfl, po F' H' _ s w jok_str⟩
      | _ => cases q
/-- range -/
def rngD (lo : Int) (n : Nat) : List D := (List.range n).map fun (i : Nat) => D.int (lo + (i : Int))
theorem jok_rng {E : Ev} {F : Hp} {lo : Int} {n : Nat} : JOk E (Itr lo n) F (rngD lo n) := fun F2 H i s sub => by
  have l : (rngD lo n).length = n := by unfold rngD; rw [List.length_map, List.length_range]
  refine ⟨fun hi => ⟨by show i < n; omega, ?_⟩, fun hi => by show n ≤ i; omega⟩
  rintro v H' ⟨rfl, rfl⟩
  refine ⟨.int (lo + i), F2, ?_, Gr.refl sub, .int _⟩
  unfold rngD
  rw [List.getElem?_map, List.getElem?_range (by omega)]
  rfl
def iRg1 (c : CE) : CI := fun G C => match c G C with
  | some (.ex e, C1) => some (.ex e, C1)
  | some (.v (.int j), C1) => if -(2 ^ 62) ≤ j ∧ j < 2 ^ 62 then some (.ok (rngD 0 j.toNat), C1) else none
  | _ => none
theorem iv_rng1 {a : Expr} {ca : CE} {p pos : Pos} (hg : Gl X "range") (hm : X.mg "range" = none) (ha : PE X a (rE E B W ca)) (hs : starEach [a] X.env = [(false, eval a X.env)] := by rfl) : PI X tg (.Call (.Name "range" p) [a] [] pos) (rI E B W (iRg1 ca)) := by
  refine PI.weak (pi_range1 hg hm (pa_cons ha pa_nil (hs.trans (by rfl))) hs) fun σ H R h => ?_
  obtain ⟨F, as, G, C, r, C', wd, sr, q, po⟩ := h
  unfold iRg1 at q
  cases q1 : ca G C with
  | none => simp only [q1] at q; cases q
  | some p =>
    obtain ⟨x, C1⟩ := p
    simp only [q1] at q
    refine ⟨F, as, G, C, x, C1, wd, sr, trivial, q1, fun F' H' s w => ?_⟩
    cases x with
    | c k => cases q
    | n o => cases q
    | ex er => cases q; exact fun cls dx a => po F' H' cls dx s w a
    | v d =>
      cases d with
      | int j =>
        simp only at q
        by_cases hj : -(2 ^ 62) ≤ j ∧ j < 2 ^ 62
        · rw [if_pos hj] at q
          cases q
          intro v a
          cases at_int a
          exact ⟨j, rfl, hj.1, hj.2, po F' H' _ s w jok_rng⟩
        · rw [if_neg hj] at q; cases q
      | _ => cases q
/-! ### for -/
def lpF (tg : CT) (body : CS) : List D → CS
  | [] => fun G C => some (.nx, G, C)
  | d :: ds => fun G C => (tg d G).bind fun G1 => match body G1 C with
    | some (.nx, G2, C2) => lpF tg body ds G2 C2
    | some (.ct, G2, C2) => lpF tg body ds G2 C2
    | some (.bk, G2, C2) => some (.nx, G2, C2)
    | r => r
def sFor (ci : CI) (tg : CT) (body : CS) : CS := fun G C => match ci G C with
  | some (.ok ds, C1) => lpF tg body ds G C1
  | some (.ex e, C1) => some (.ex e, G, C1)
  | none => none
theorem rS_for {ci : CI} {t : CT} {g : TG} {cb : CS} {σ : L2.St} {H : Hp} {D : Ends} (hg : TgOk E g t) (h : rS E B W (sFor ci t cb) D σ H) : tFor (rI E B W ci) g (rS E B W cb) D σ H := by
  obtain ⟨F, as, G, C, o, G', C', wd, sr, e, po⟩ := h
  unfold sFor at e
  cases q : ci G C with
  | none => simp only [q] at e; cases e
  | some p =>
    obtain ⟨r, C1⟩ := p
    simp only [q] at e
    refine ⟨F, as, G, C, r, C1, wd, sr, q, ?_⟩
    cases r with
    | ex er => cases e; exact fun F' H' cls dx s w a => po F' H' as σ s (List.prefix_refl _) w (sr.mv s (List.prefix_refl _)) cls dx a
    | ok ds =>
      simp only at e
      intro F' H' J s w jo
      refine ⟨fun i m σ H => i + m = ds.length ∧ ∃ F as G C, Wd E B H F as C ∧ Sr E F as σ G ∧ JOk E J F ds ∧ lpF t cb (ds.drop i) G C = some (o, G', C') ∧ PoS E B W F as D G' C' o, ⟨ds.length, by omega, F', as, G, C1, w, sr.mv s (List.prefix_refl _), jo, by rw [List.drop_zero]; exact e, po.imp s (List.prefix_refl _)⟩, ?_⟩
      rintro i m σ1 H1 ⟨him, F1, as1, G1, C2, w1, sr1, jo1, e1, po1⟩
      have jj := jo1 F1 H1 i (Sm.refl F1) w1.sub
      by_cases hi : i < ds.length
      · right
        obtain ⟨go, yl⟩ := jj.1 hi
        refine ⟨go, fun σ2 H2 => ∃ F as G C, Wd E B H2 F as C ∧ Sr E F as σ2 G ∧ JOk E J F ds ∧ lpF t cb (ds.drop (i + 1)) G C = some (o, G', C') ∧ PoS E B W F as D G' C' o, fun σ2 H2 z => ⟨m - 1, by omega, by omega, z⟩, fun x H2 y => ?_⟩
        obtain ⟨d, F3, ed, gr, ax⟩ := yl x H2 y
        have w3 := w1.gr gr
        rw [List.drop_eq_getElem_cons hi] at e1
        have ed2 : ds[i] = d := by
          rw [List.getElem?_eq_getElem hi] at ed
          exact Option.some.inj ed
        rw [ed2] at e1
        have e1 : ((t d G1).bind fun G2 => match cb G2 C2 with
          | some (.nx, G2, C2) => lpF t cb (ds.drop (i + 1)) G2 C2
          | some (.ct, G2, C2) => lpF t cb (ds.drop (i + 1)) G2 C2
          | some (.bk, G2, C2) => some (.nx, G2, C2)
          | r => r) = some (o, G', C') := e1
        cases qt : t d G1 with
        | none => rw [qt] at e1; cases e1
        | some G2 =>
          rw [qt] at e1
          simp only [Option.bind_some] at e1
          refine hg F3 H2 as1 σ1 G1 G2 x d _ gr.sub ax (sr1.mv gr.f (List.prefix_refl _)) qt fun σ3 sr3 => ?_
          cases qb : cb G2 C2 with
          | none => rw [qb] at e1; cases e1
          | some pb =>
            obtain ⟨o2, G4, C4⟩ := pb
            rw [qb] at e1
            refine ⟨F3, as1, G2, C2, o2, G4, C4, w3, sr3, qb, fun F5 H5 as5 σ5 s5 p5 w5 sr5 => ?_⟩
            have po5 := po1.imp (gr.f.tr s5) p5
            have jo5 := jo1.mv (gr.f.tr s5)
            cases o2 with
            | nx => exact ⟨F5, as5, G4, C4, w5, sr5, jo5, e1, po5⟩
            | ct => exact ⟨F5, as5, G4, C4, w5, sr5, jo5, e1, po5⟩
            | bk => cases e1; exact po5 F5 H5 as5 σ5 (Sm.refl _) (List.prefix_refl _) w5 sr5
            | rt d => cases e1; exact po5 F5 H5 as5 σ5 (Sm.refl _) (List.prefix_refl _) w5 sr5
            | ex er => cases e1; exact po5 F5 H5 as5 σ5 (Sm.refl _) (List.prefix_refl _) w5 sr5
      · left
        refine ⟨jj.2 (by omega), ?_⟩
        rw [List.drop_eq_nil_of_le (by omega)] at e1
        cases e1
        exact po1 F1 H1 as1 σ1 (Sm.refl _) (List.prefix_refl _) w1 sr1
theorem sv_for {iter : Expr} {body : List Stmt} {ci : CI} {t : CT} {g : TG} {cb : CS} {pos : Pos} (hp : PassesOwn (model X.prog X.w) X.A X.env X.xe) (hc : X.calm = true) (hi : PI X tg iter (rI E B W ci)) (hg : PG X tg g) (ht : TgOk E g t) (hb : PSs X body (rS E B W cb)) (hs : ∀ x, foldedSetIterable iter X.env x = pure x := by intro _; rfl) : PS X (.For tg iter body [] pos) (rS E B W (sFor ci t cb)) :=
  PS.weak (ps_for hp hc hi hg hb hs) fun _ _ _ h => rS_for ht h
end
end TL
set_option Elab.async false
set_option linter.all false
set_option maxRecDepth 100000
set_option maxHeartbeats 1000000
/-! Uf: comprehensions. -/
namespace TL
open PySem PySem.Spec PyProof.Rows L2 Gd
abbrev nev : WX := fun _ _ _ _ => False
def wipeG (G : Sl) : List Nat → Sl
  | [] => G
  | v :: vs => (wipeG G vs).set v none
theorem Sr.wipe {E : Ev} {F : Hp} {as : List Addr} {σ : L2.St} {G : Sl} (h : Sr E F as σ G) : ∀ vs : List Nat, Sr E F as (L2.wipe σ vs) (wipeG G vs)
  | [] => h
  | v :: vs => (Sr.wipe h vs).wip v
/-- a target of slots that the block forgets -/
def TgW (g : TG) (vs : List Nat) : Prop := ∀ (v : V) (σ : L2.St) (H : Hp) (Q : L2.St → Hp → Prop), g v σ H Q → g v σ H fun σ2 H2 => wipe σ2 vs = wipe σ vs ∧ Q σ2 H2
def TgsW (g : TGs) (vs : List Nat) : Prop := ∀ (v : List V) (σ : L2.St) (H : Hp) (Q : L2.St → Hp → Prop), g v σ H Q → g v σ H fun σ2 H2 => wipe σ2 vs = wipe σ vs ∧ Q σ2 H2
theorem wipe_set {vs : List Nat} {i : Nat} (hi : i ∈ vs) (σ : L2.St) (x : Option V) : wipe (σ.set i x) vs = wipe σ vs := by
  apply List.ext_getElem?
  intro j
  by_cases hj : j ∈ vs
  · have z : ∀ (τ : L2.St) (ws : List Nat), j ∈ ws → (wipe τ ws)[j]? = τ[j]?.map fun _ => none := fun τ ws => by
      induction ws with
      | nil => intro q; cases q
      | cons w ws ih =>
        intro q
        show ((wipe τ ws).set w none)[j]? = _
        by_cases e : w = j
        · subst e
          by_cases l : w < τ.length
          · rw [List.getElem?_set_self (by rw [wipe_length]; exact l), List.getElem?_eq_getElem l]; rfl
          · rw [List.getElem?_eq_none (by rw [List.length_set, wipe_length]; omega), List.getElem?_eq_none (by omega)]; rfl
        · rw [List.getElem?_set_ne e]
          exact ih ((List.mem_cons.mp q).resolve_left fun z => e z.symm)
    rw [z _ _ hj, z _ _ hj]
    by_cases e : i = j
    · subst e
      by_cases l : i < σ.length
      · rw [List.getElem?_set_self l, List.getElem?_eq_getElem l]; rfl
      · rw [List.getElem?_eq_none (by rw [List.length_set]; omega), List.getElem?_eq_none (by omega)]
    · rw [List.getElem?_set_ne e]
  · rw [wipe_out hj, wipe_out hj, List.getElem?_set_ne (by rintro rfl; exact hj hi)]
theorem wipe_wipe {vs : List Nat} (σ : L2.St) : wipe (wipe σ vs) vs = wipe σ vs := by
  have z : ∀ (ws : List Nat) (τ : L2.St), (∀ i ∈ ws, i ∈ vs) → wipe (wipe τ ws) vs = wipe τ vs := fun ws => by
    induction ws with
    | nil => intro τ _; rfl
    | cons w ws ih =>
      intro τ h
      show wipe ((wipe τ ws).set w none) vs = _
      rw [wipe_set (h w List.mem_cons_self), ih τ fun i hi => h i (List.mem_cons_of_mem _ hi)]
  exact z vs σ fun _ h => h
theorem tgw_name {vs : List Nat} {i : Nat} (hi : i ∈ vs) : TgW (gName i) vs := fun v σ H Q q => ⟨wipe_set hi σ _, q⟩
theorem tgsw_nil {vs : List Nat} : TgsW gNil vs := fun v σ H Q q => ⟨q.1, rfl, q.2⟩
theorem TgW.imp {g : TG} {tg : CT} {E : Ev} (h : TgOk E g tg) : True := trivial
/-- a target's reading wants no more where more follows -/
def TgM (g : TG) : Prop := ∀ (v : V) (σ : L2.St) (H : Hp) (Q Q' : L2.St → Hp → Prop), (∀ σ2 H2, Q σ2 H2 → Q' σ2 H2) → g v σ H Q → g v σ H Q'
def TgsM (g : TGs) : Prop := ∀ (v : List V) (σ : L2.St) (H : Hp) (Q Q' : L2.St → Hp → Prop), (∀ σ2 H2, Q σ2 H2 → Q' σ2 H2) → g v σ H Q → g v σ H Q'
theorem tgm_name {i : Nat} : TgM (gName i) := fun v σ H Q Q' k q => k _ _ q
theorem tgsm_nil : TgsM gNil := fun v σ H Q Q' k q => ⟨q.1, k _ _ q.2⟩
theorem tgsm_cons {g : TG} {gs : TGs} (h : TgM g) (r : TgsM gs) : TgsM (gCons g gs) := fun v σ H Q Q' k ⟨x, y, e, q⟩ => ⟨x, y, e, h _ _ _ _ _ (fun σ2 H2 z => r _ _ _ _ _ k z) q⟩
theorem tgsw_cons {g : TG} {gs : TGs} {vs : List Nat} (m : TgM g) (n : TgsM gs) (h : TgW g vs) (r : TgsW gs vs) : TgsW (gCons g gs) vs := fun v σ H Q ⟨x, y, e, q⟩ =>
  ⟨x, y, e, m _ _ _ _ _ (fun σ2 H2 ⟨e1, z⟩ => n _ _ _ _ _ (fun σ3 H3 ⟨e2, z3⟩ => ⟨e2.trans e1, z3⟩) (r _ _ _ _ z)) (h _ _ _ _ q)⟩
theorem tgw_tup {K : PySem.W.Frag} {n : Nat} {gs : TGs} {vs : List Nat} (r : TgsW gs vs) : TgW (gTup K n gs) vs := fun v σ H Q ⟨a, xs, e, h, l, q⟩ => ⟨a, xs, e, h, l, r _ _ _ _ q⟩
theorem tgm_tup {K : PySem.W.Frag} {n : Nat} {gs : TGs} (r : TgsM gs) : TgM (gTup K n gs) := fun v σ H Q Q' k ⟨a, xs, e, h, l, q⟩ => ⟨a, xs, e, h, l, r _ _ _ _ _ k q⟩
/-- target, test, element of a block -/
def lpC (tg : CT) (tt el : CE) : List D → Sl → Cs → List D → Option (List D × Cs)
  | [], _, C, acc => some (acc, C)
  | d :: ds, G, C, acc => (tg d G).bind fun G1 => match tt G1 C with
    | some (.v (.bl true), C1) => match el G1 C1 with
      | some (.v d', C2) => if acc.length < 100000 then lpC tg tt el ds G C2 (acc ++ [d']) else none
      | _ => none
    | some (.v (.bl false), C1) => lpC tg tt el ds G C1 acc
    | _ => none
def cLc (ci : CI) (tg : CT) (tt el : CE) (vs : List Nat) : CE := fun G C => match ci G C with
  | some (.ok ds, C1) => (lpC tg tt el ds (wipeG G vs) C1 []).map fun p => (.n (.lst p.1), p.2)
  | some (.ex e, C1) => some (.ex e, C1)
  | none => none
def ctY : CE := fun _ C => some (.v (.bl true), C)
section
variable {E : Ev} {B : Bs} {H F : Hp} {as : List Addr} {C : Cs} {p : Addr} {o : HO}
/-- what a block builds is no business of the world -/
theorem Wd.side (w : Wd E B H F as C) (hp : H p = some o) (fp : F p = none) (np : p ∉ as) (bp : B.H0 p = none) (no : NT o := by intro _ z; cases z) : Wd E ⟨upd B.H0 p o, B.F0, B.own⟩ H F as C where
  sub := w.sub
  f0 := w.f0
  keep := fun a u e n z nt => by
    by_cases h : a = p
    · subst h
      have e : upd B.H0 a o a = some u := e
      rw [upd_same] at e
      cases e
      exact hp
    · have e : upd B.H0 p o a = some u := e
      rw [upd_ne h] at e
      exact w.keep a u e n z nt
  th0 := fun a h => by
    by_cases q : a = p
    · subst q; exact ⟨_, hp, no⟩
    · exact w.th0 a (by have h : upd B.H0 p o a ≠ none := h; rw [upd_ne q] at h; exact h)
  tab := w.tab
  nt := w.nt
  new := fun a u e z => by
    show upd B.H0 p o a = none
    rw [upd_ne (by rintro rfl; rw [fp] at e; cases e)]
    exact w.new a u e z
  len := w.len
  nd := w.nd
  pre := w.pre
  fresh := fun a ha => (w.fresh a ha).imp id fun z => by
    show upd B.H0 p o a = none
    rw [upd_ne (by rintro rfl; exact np ha)]
    exact z
  there := w.there
  at_ := w.at_
theorem Wd.unside {B0 : Hp} (w : Wd E ⟨upd B.H0 p o, B.F0, B.own⟩ H F as C) (no : NT o) (bp : B.H0 p = none) (f0 : B.F0 p = none) (np : p ∉ as) : Wd E B H F as C ∧ H p = some o ∧ F p = none := by
  have ee : upd B.H0 p o p = some o := upd_same
  have hp : H p = some o := w.keep p o ee (fun z => np (w.pre.subset z)) f0 no
  have fp : F p = none := by
    cases q : F p with
    | none => rfl
    | some u =>
      have this : upd B.H0 p o p = none := w.new p u q f0
      rw [ee] at this
      cases this
  refine ⟨⟨w.sub, w.f0, fun a u e n z nt => ?_, fun a h => w.th0 a (by show upd B.H0 p o a ≠ none; rw [upd_ne (by rintro rfl; exact h bp)]; exact h), w.tab, w.nt, fun a u e z => ?_, w.len, w.nd, w.pre, fun a ha => (w.fresh a ha).imp id fun z => ?_, w.there, w.at_⟩, hp, fp⟩
  · exact w.keep a u (by show upd B.H0 p o a = some u; rw [upd_ne (by rintro rfl; rw [bp] at e; cases e)]; exact e) n z nt
  · have z2 : upd B.H0 p o a = none := w.new a u e z
    rw [upd_ne (by rintro rfl; rw [fp] at e; cases e)] at z2
    exact z2
  · have z : upd B.H0 p o a = none := z
    rw [upd_ne (by rintro rfl; exact np ha)] at z
    exact z
/-- an object outside changes -/
theorem Wd.out (w : Wd E B H F as C) (fp : F p = none) (np : p ∉ as) (bp : B.H0 p = none) (o' : HO) (hl : H p = none ∨ ∃ xs, H p = some (.lst xs)) (no : NT o' := by intro _ z; cases z) : Wd E B (upd H p o') F as C where
  sub := fun a u e => by rw [upd_ne (by rintro rfl; rw [fp] at e; cases e)]; exact w.sub a u e
  f0 := w.f0
  keep := fun a u e n z nt => by rw [upd_ne (by rintro rfl; rw [bp] at e; cases e)]; exact w.keep a u e n z nt
  th0 := fun a h => (w.th0 a h).upd no
  tab := hl.elim (fun z => w.tab.ext (Same.newG z)) fun ⟨xs, z⟩ => tabs_put w.tab z (fun _ z => by cases z) fun q z => by unfold LamX.CodeO at z; cases z
  nt := w.nt
  new := w.new
  len := w.len
  nd := w.nd
  pre := w.pre
  fresh := w.fresh
  there := fun a ha => (w.there a ha).upd no
  at_ := fun k a c e1 e2 => by
    obtain ⟨f, u, h1, h2⟩ := w.at_ k a c e1 e2
    exact ⟨f, u, by rw [upd_ne (by rintro rfl; exact np (List.mem_of_getElem? e1))]; exact h1, h2⟩
end
section
variable {X : Cx} {E : Ev} {B : Bs} {W : WX}
theorem rE_lc {ci : CI} {t : CT} {g : TG} {tt el : CE} {vs : List Nat} {TTr : TT} {TEr : TE} {σ : L2.St} {H : Hp} {Q : VK} (hg : TgOk E g t) (hw : TgW g vs)
    (hTT : ∀ B' σ H Q, rT E B' nev tt σ H Q → TTr σ H Q) (hTE : ∀ B' σ H Q, rE E B' nev el σ H Q → TEr σ H Q)
    (h : rE E B W (cLc ci t tt el vs) σ H Q) : tLc (rI E B W ci) g TTr TEr vs σ H Q := by
  obtain ⟨F, as, G, C, r, C', wd, sr, _, e, po⟩ := h
  unfold cLc at e
  cases q : ci G C with
  | none => simp only [q] at e; cases e
  | some p =>
    obtain ⟨r1, C1⟩ := p
    simp only [q] at e
    refine ⟨F, as, G, C, r1, C1, wd, sr, q, ?_⟩
    cases r1 with
    | ex er => cases e; exact fun F' H' cls dx s w a => po.ex s w a
    | ok ds =>
      simp only at e
      intro F' H' J s w jo Dd hD
      have fD : F' Dd = none := by
        cases q : F' Dd with
        | none => rfl
        | some u => rw [w.sub Dd u q] at hD; cases hD
      have nD : Dd ∉ as := fun z => (w.there Dd z).ne hD
      have bD : B.H0 Dd = none := w.nobase hD
      have f0D : B.F0 Dd = none := w.f0.none fD
      have w0 : Wd E B (upd H' Dd (.lst [])) F' as C1 := w.out fD nD bD _ (.inl hD)
      have srw := (sr.mv s (List.prefix_refl as)).wipe vs
      cases ql : lpC t tt el ds (wipeG G vs) C1 [] with
      | none => rw [ql] at e; cases e
      | some pl =>
      obtain ⟨l0, Cl⟩ := pl
      rw [ql] at e
      cases e
      refine ⟨fun i m H => i + m = ds.length ∧ ∃ F C acc xs, Wd E B H F as C ∧ Sm F' F ∧ H Dd = some (.lst xs) ∧ F Dd = none ∧ Ats E F xs acc ∧ lpC t tt el (ds.drop i) (wipeG G vs) C acc = some (l0, Cl) ∧ PoE E B W F as Cl σ (.n (.lst l0)) Q, ⟨ds.length, by omega, F', C1, [], [], w0, Sm.refl _, upd_same, fD, .nil, by rw [List.drop_zero]; exact ql, po.imp s⟩, ?_⟩
      rintro i m H1 ⟨him, F1, C2, acc, xs, w1, s1, hD1, fD1, ax, e1, po1⟩
      have jj := jo F1 H1 i s1 w1.sub
      by_cases hi : i < ds.length
      · right
        obtain ⟨go, yl⟩ := jj.1 hi
        refine ⟨go, fun H2 => ∃ F C acc xs, Wd E B H2 F as C ∧ Sm F' F ∧ H2 Dd = some (.lst xs) ∧ F Dd = none ∧ Ats E F xs acc ∧ lpC t tt el (ds.drop (i + 1)) (wipeG G vs) C acc = some (l0, Cl) ∧ PoE E B W F as Cl σ (.n (.lst l0)) Q, fun H2 z => ⟨m - 1, by omega, by omega, z⟩, fun x H2 y => ?_⟩
        obtain ⟨d, F3, ed, gr, axd⟩ := yl x H2 y
        have w3 := w1.gr gr
        have hD3 : H2 Dd = some (.lst xs) := gr.h _ _ hD1 fD1 (fun _ z => by cases z)
        have fD3 : F3 Dd = none := gr.stay hD1 (fun _ z => by cases z) fD1
        rw [List.drop_eq_getElem_cons hi] at e1
        have ed2 : ds[i] = d := by
          rw [List.getElem?_eq_getElem hi] at ed
          exact Option.some.inj ed
        rw [ed2] at e1
        unfold lpC at e1
        cases qt : t d (wipeG G vs) with
        | none => rw [qt] at e1; cases e1
        | some G2 =>
          rw [qt] at e1
          simp only [Option.bind_some] at e1
          suffices key : g x (wipe σ vs) H2 (fun σ3 H3 => TTr σ3 H3 fun b H4 => if b = true then TEr σ3 H4 fun y H5 => ∃ acc, H5 Dd = some (.lst acc) ∧ acc.length < sizeLine ∧ (fun H2 => ∃ F C acc xs, Wd E B H2 F as C ∧ Sm F' F ∧ H2 Dd = some (.lst xs) ∧ F Dd = none ∧ Ats E F xs acc ∧ lpC t tt el (ds.drop (i + 1)) (wipeG G vs) C acc = some (l0, Cl) ∧ PoE E B W F as Cl σ (.n (.lst l0)) Q) (upd H5 Dd (.lst (acc ++ [y]))) else (fun H2 => ∃ F C acc xs, Wd E B H2 F as C ∧ Sm F' F ∧ H2 Dd = some (.lst xs) ∧ F Dd = none ∧ Ats E F xs acc ∧ lpC t tt el (ds.drop (i + 1)) (wipeG G vs) C acc = some (l0, Cl) ∧ PoE E B W F as Cl σ (.n (.lst l0)) Q) H4) by
            have z := hw _ _ _ _ key
            rw [wipe_wipe] at z
            exact z
          refine hg F3 H2 as (wipe σ vs) (wipeG G vs) G2 x d _ gr.sub axd (srw.mv (s1.tr gr.f) (List.prefix_refl _)) qt fun σ3 sr3 => ?_
          refine hTT ⟨upd B.H0 Dd (.lst xs), B.F0, B.own⟩ _ _ _ ?_
          cases qb : tt G2 C2 with
          | none => rw [qb] at e1; cases e1
          | some pb =>
            obtain ⟨rt, C4⟩ := pb
            rw [qb] at e1
            refine ⟨F3, as, G2, C2, rt, C4, w3.side hD3 fD3 nD bD, sr3, qb, ?_⟩
            cases rt with
            | ex er => cases e1
            | c k => cases e1
            | n o => cases e1
            | v db =>
              cases db with
              | bl b =>
                cases b with
                | false =>
                  intro F5 H5 s5 w5
                  obtain ⟨w6, hD5, fD5⟩ := w5.unside (B0 := F) (fun _ z => by cases z) bD f0D nD
                  exact ⟨F5, C4, acc, xs, w6, (s1.tr gr.f).tr s5, hD5, fD5, (ax.mv gr.f).mv s5, e1, po1.imp (gr.f.tr s5)⟩
                | true =>
                  intro F5 H5 s5 w5
                  simp only at e1
                  cases qe : el G2 C4 with
                  | none => rw [qe] at e1; cases e1
                  | some pe =>
                    obtain ⟨re, C6⟩ := pe
                    rw [qe] at e1
                    show TEr σ3 H5 _
                    refine hTE ⟨upd B.H0 Dd (.lst xs), B.F0, B.own⟩ _ _ _ ⟨F5, as, G2, C4, re, C6, w5, sr3.mv s5 (List.prefix_refl _), trivial, qe, fun F7 H7 s7 w7 => ?_⟩
                    cases re with
                    | ex er => cases e1
                    | c k => cases e1
                    | n o => cases e1
                    | v d' =>
                      intro v7 a7
                      simp only at e1
                      by_cases hf : acc.length < 100000
                      · rw [if_pos hf] at e1
                        obtain ⟨w8, hD8, fD8⟩ := w7.unside (B0 := F) (fun _ z => by cases z) bD f0D nD
                        have ax8 := ((ax.mv gr.f).mv s5).mv s7
                        refine ⟨xs, hD8, ?_, F7, C6, acc ++ [d'], xs ++ [v7], w8.out fD8 nD bD _ (.inr ⟨_, hD8⟩), ((s1.tr gr.f).tr s5).tr s7, upd_same, fD8, ax8.app (.cons a7 .nil), e1, po1.imp ((gr.f.tr s5).tr s7)⟩
                        rw [ax8.len]
                        exact Nat.lt_of_lt_of_le hf (by decide)
                      · rw [if_neg hf] at e1; cases e1
              | _ => cases e1
      · left
        refine ⟨jj.2 (by omega), ?_⟩
        rw [List.drop_eq_nil_of_le (by omega)] at e1
        cases e1
        exact po1.back (fun _ z => by cases z) (Sm.refl _) w1 ⟨Dd, _, rfl, hD1, fD1, nD, bD, xs, rfl, ax⟩
theorem tv_yes {Φ : Ph} {σ : L2.St} {H : Hp} {Q : Bool → Hp → Prop} (h : rT E B W ctY σ H Q) : tYes σ H Q := rT_c h
theorem ev_lc {elt tg iter : Expr} {ifs : List Expr} {scope : Scope} {own : List (Str × Nat)} {pos : Pos} {ci : CI} {t : CT} {g : TG} {tt el : CE} (hc : X.calm = true) (hN : X.N.Nodup) (hi : PI X tg iter (rI E B W ci)) (ok : BlkOk X.N X.env.scope scope own)
    (hg : ∀ (s : Shared) (H : Hp) (C : Addr) (cl : List (Str × Addr)) (fp : List Addr), PG (X.blk s H scope (compEnvC scope cl C X.env) fp) tg g) (tgo : TgOk E g t) (tgw : TgW g (own.map (·.2)))
    (ht : ∀ (s : Shared) (H : Hp) (C : Addr) (cl : List (Str × Addr)) (fp : List Addr), PTs (X.blk s H scope (compEnvC scope cl C X.env) fp) ifs (fun σ H Q => ∃ B', rT E B' nev tt σ H Q))
    (he : ∀ (s : Shared) (H : Hp) (C : Addr) (cl : List (Str × Addr)) (fp : List Addr), PE (X.blk s H scope (compEnvC scope cl C X.env) fp) elt (fun σ H Q => ∃ B', rE E B' nev el σ H Q)) (hs : ∀ x, foldedSetIterable iter X.env x = pure x := by intro _; rfl) :
    PE X (.ListComp elt [⟨tg, iter, ifs, 0⟩] scope pos) (rE E B W (cLc ci t tt el (own.map (·.2)))) :=
  PE.weak (pe_lc hc hN hi ok hg ht he hs) fun _ _ _ h => rE_lc tgo tgw (fun B' _ _ _ z => ⟨B', z⟩) (fun B' _ _ _ z => ⟨B', z⟩) h
theorem pes {X : Cx} {e : Expr} {c : CE} (h : ∀ B', PE X e (rE E B' nev c)) : PE X e (fun σ H Q => ∃ B', rE E B' nev c σ H Q) := ⟨fun pins s σ H Q I ⟨B', q⟩ => (h B').run pins s σ H Q I q⟩
theorem pts {X : Cx} {e : Expr} {c : CE} (h : ∀ B', PT X e (rT E B' nev c)) : PTs X [e] (fun σ H Q => ∃ B', rT E B' nev c σ H Q) := pts_one ⟨fun pins s σ H Q I ⟨B', q⟩ => (h B').run pins s σ H Q I q⟩
theorem pts0 {X : Cx} : PTs X [] (fun σ H Q => ∃ B', rT E B' nev ctY σ H Q) := ⟨fun pins s σ H Q I ⟨B', q⟩ => pts_nil.run pins s σ H Q I (rT_c q)⟩
end
end TL
set_option Elab.async false
set_option linter.all false
set_option maxRecDepth 100000
set_option maxHeartbeats 1000000
/-! Ug: operations on trees. -/
namespace TL
open PySem PySem.Spec PyProof.Rows L2 Gd
section
variable {E : Ev} {F H : Hp}
mutual
theorem at_dp : ∀ {v : V} {d : D} {p : PyData}, At E F v d → toP d = some p → Dp E.K F v p
  | _, _, _, .non, e => by simp only [toP] at e; cases e; exact .non
  | _, _, _, .bl b, e => by simp only [toP] at e; cases e; exact .bl b
  | _, _, _, .int i, e => by simp only [toP] at e; cases e; exact .int i
  | _, _, _, .str x, e => by simp only [toP] at e; cases e; exact .str x
  | _, _, _, .ty n, e => by simp only [toP] at e; cases e
  | _, _, _, .cls n, e => by simp only [toP] at e; cases e
  | _, _, _, .scr h, e => by simp only [toP] at e; cases e
  | _, _, _, .pr h r, e => by simp only [toP] at e; cases e
  | _, _, _, .tup (ds := ds) h r f, e => by
    simp only [toP] at e
    cases q : toPs ds with
    | none => rw [q] at e; cases e
    | some ps => rw [q] at e; cases e; exact .tup h (ats_dp r q)
  | _, _, _, .lst (ds := ds) h r, e => by
    simp only [toP] at e
    cases q : toPs ds with
    | none => rw [q] at e; cases e
    | some ps => rw [q] at e; cases e; exact .lst (SqL.of h) (ats_dp r q)
  | _, _, _, .dic h r, e => by simp only [toP] at e; cases e
  | _, _, _, .dicN h n r, e => by simp only [toP] at e; cases e
  | _, _, _, .obj h r, e => by simp only [toP] at e; cases e
theorem ats_dp : ∀ {vs : List V} {ds : List D} {ps : List PyData}, Ats E F vs ds → toPs ds = some ps → DpAll E.K F vs ps
  | _, _, _, .nil, e => by simp only [toPs] at e; cases e; exact .nil
  | _, _, _, .cons (d := d) (ds := ds) h r, e => by
    simp only [toPs] at e
    cases q1 : toP d with
    | none => rw [q1] at e; cases e
    | some p =>
      cases q2 : toPs ds with
      | none => rw [q1, q2] at e; cases e
      | some ps => rw [q1, q2] at e; cases e; exact .cons (at_dp h q1) (ats_dp r q2)
end
mutual
theorem toP_plain : ∀ {d : D} {p : PyData}, toP d = some p → p.plain = true
  | .non, _, e => by simp only [toP] at e; cases e; rfl
  | .bl b, _, e => by simp only [toP] at e; cases e; rfl
  | .int i, _, e => by simp only [toP] at e; cases e; rfl
  | .str x, _, e => by simp only [toP] at e; cases e; rfl
  | .ty n, _, e => by simp only [toP] at e; cases e
  | .cls n, _, e => by simp only [toP] at e; cases e
  | .scr n, _, e => by simp only [toP] at e; cases e
  | .dic n, _, e => by simp only [toP] at e; cases e
  | .obj c n, _, e => by simp only [toP] at e; cases e
  | .tup ds, _, e => by
    simp only [toP] at e
    cases q : toPs ds with
    | none => rw [q] at e; cases e
    | some ps => rw [q] at e; cases e; rw [PyData.plain]; exact toPs_plain q
  | .lst ds, _, e => by
    simp only [toP] at e
    cases q : toPs ds with
    | none => rw [q] at e; cases e
    | some ps => rw [q] at e; cases e; rw [PyData.plain]; exact toPs_plain q
theorem toPs_plain : ∀ {ds : List D} {ps : List PyData}, toPs ds = some ps → PyData.plainAll ps = true
  | [], _, e => by simp only [toPs] at e; cases e; rfl
  | d :: ds, _, e => by
    simp only [toPs] at e
    cases q1 : toP d with
    | none => rw [q1] at e; cases e
    | some p =>
      cases q2 : toPs ds with
      | none => rw [q1, q2] at e; cases e
      | some ps => rw [q1, q2] at e; cases e; rw [PyData.plainAll, toP_plain q1, toPs_plain q2]; rfl
end
theorem Pk.dp {v : V} {d : D} {p : PyData} (s : Same F H) (h : Pk E F H v d) (e : toP d = some p) : Dp E.K H v p := at_dp (h.at s) e
/-- a list, as it stands -/
theorem Pk.list {v : V} {ds : List D} (s : Same F H) (h : Pk E F H v (.lst ds)) : ∃ a vs, v = .ref a ∧ H a = some (.lst vs) ∧ Ats E F vs ds := by
  rcases h with h | ⟨a, o, c, rfl, h, r, e⟩
  · cases h with
    | lst h r => exact ⟨_, _, rfl, s _ _ h, r⟩
  · cases c with
    | lst es => cases e; obtain ⟨vs, rfl, r⟩ := r; exact ⟨a, vs, rfl, h, r⟩
    | dic _ => cases e
    | ins _ _ => cases e
theorem Pk.tup {v : V} {ds : List D} (h : Pk E F H v (.tup ds)) : ∃ a vs, v = .ref a ∧ SqT E.K F a vs ∧ Ats E F vs ds := by
  rcases h with h | ⟨a, o, c, rfl, h, r, e⟩
  · cases h with
    | tup h r => exact ⟨_, _, rfl, h, r⟩
  · cases c <;> cases e
theorem Pk.tupF {v : V} {ds : List D} (h : Pk E F H v (.tup ds)) : ∃ a vs, v = .ref a ∧ SqT E.K F a vs ∧ Ats E F vs ds ∧ TF E.K F a := by
  rcases h with h | ⟨a, o, c, rfl, h, r, e⟩
  · cases h with
    | tup h r f => exact ⟨_, _, rfl, h, r, f⟩
  · cases c <;> cases e
theorem Pk.int {v : V} {i : Int} (h : Pk E F H v (.int i)) : v = .int i := by
  rcases h with h | ⟨a, o, c, rfl, h, r, e⟩
  · exact at_int h
  · cases c <;> cases e
theorem Pk.bl {v : V} {i : Bool} (h : Pk E F H v (.bl i)) : v = .bl i := by
  rcases h with h | ⟨a, o, c, rfl, h, r, e⟩
  · exact at_bl h
  · cases c <;> cases e
theorem Pk.str {v : V} {i : Str} (h : Pk E F H v (.str i)) : v = .str i := by
  rcases h with h | ⟨a, o, c, rfl, h, r, e⟩
  · exact at_str h
  · cases c <;> cases e
theorem Pk.non {v : V} (h : Pk E F H v .non) : v = .non := by
  rcases h with h | ⟨a, o, c, rfl, h, r, e⟩
  · cases h; rfl
  · cases c <;> cases e
end
theorem pks1 {E : Ev} {F H : Hp} {xs : List V} {d : D} (h : Pks E F H xs [d]) : ∃ v, xs = [v] ∧ Pk E F H v d := by
  cases h with
  | cons h r => cases r; exact ⟨_, rfl, h⟩
theorem pks2 {E : Ev} {F H : Hp} {xs : List V} {d e : D} (h : Pks E F H xs [d, e]) : ∃ v u, xs = [v, u] ∧ Pk E F H v d ∧ Pk E F H u e := by
  cases h with
  | cons h r =>
    cases r with
    | cons h2 r2 => cases r2; exact ⟨_, _, rfl, h, h2⟩
/-- an end: a value that needs nothing new -/
theorem fin0 {E : Ev} {F H : Hp} {Q : VK} {z : Rd1} (s : Same F H) (k : ∀ F' H' v, Gr E F H F' H' → R1At E F H F' H' v z → Q v H') {v : V} (a : R1At E F H F H v z) : Q v H := k F H v (Gr.refl s) a
theorem fresh_F {F H : Hp} (s : Same F H) {p : Addr} (h : H p = none) : F p = none := by
  cases q : F p with
  | none => rfl
  | some u => rw [s p u q] at h; cases h
theorem finL {E : Ev} {F H : Hp} {Q : VK} {vs : List V} {ds : List D} (s : Same F H) (k : ∀ F' H' v, Gr E F H F' H' → R1At E F H F' H' v (.n (.lst ds)) → Q v H') (a : Ats E F vs ds) : ∀ p, H p = none → Q (.ref p) (upd H p (.lst vs)) := fun p hp =>
  k F _ _ (Gr.newH s hp) ⟨p, _, rfl, hp, upd_same, fresh_F s hp, vs, rfl, a⟩
theorem finT {E : Ev} {F H : Hp} {Q : VK} {vs : List V} {ds : List D} (s : Same F H) (k : ∀ F' H' v, Gr E F H F' H' → R1At E F H F' H' v (.v (.tup ds)) → Q v H') (a : Ats E F vs ds) : ∀ p o, TOb o → H p = none → Q (.ref p) (upd H p (.frz o (.tup vs))) := fun p o t hp =>
  k _ _ _ (Gr.newF s hp) (.tup sq_new (a.mv (.of (Same.newG (fresh_F s hp)))) (tf_new t))
section
variable {X : Cx} {E : Ev}
/-! ### == and != of data -/
def fEq (neg : Bool) (x y : D) : Option Rd1 := (toP x).bind fun p => (toP y).bind fun q => if p.depth ≤ 64 then some (.v (.bl (if neg = true then !PyData.eqv p q else PyData.eqv p q))) else none
theorem fEq_inv {neg : Bool} {x y : D} {z : Rd1} (e : fEq neg x y = some z) : ∃ p q, toP x = some p ∧ toP y = some q ∧ p.depth ≤ 64 ∧ z = .v (.bl (if neg = true then !PyData.eqv p q else PyData.eqv p q)) := by
  unfold fEq at e
  cases q1 : toP x with
  | none => rw [q1] at e; cases e
  | some p =>
    cases q2 : toP y with
    | none => rw [q1, q2] at e; cases e
    | some q =>
      rw [q1, q2] at e
      simp only [Option.bind_some] at e
      by_cases h : p.depth ≤ 64
      · rw [if_pos h] at e; cases e; exact ⟨p, q, rfl, rfl, h, rfl⟩
      · rw [if_neg h] at e; cases e
theorem od_eq (hK : X.K = E.K) (hu : X.A.units + 64 < cLine) : OpD X E (compareOp .Eq) (fEq false) := fun pins s σ H x y v u Q I rx ry ⟨F, dx, dy, z, sub, px, py, e, k⟩ => by
  obtain ⟨p, q, e1, e2, hd, rfl⟩ := fEq_inv e
  exact op_eqP hu pins s σ H x y v u Q I rx ry ⟨p, q, by rw [hK]; exact px.dp sub e1, by rw [hK]; exact py.dp sub e2, toP_plain e1, toP_plain e2, hd, fin0 sub k (.bl _)⟩
theorem od_ne (hK : X.K = E.K) (hu : X.A.units + 64 < cLine) : OpD X E (compareOp .NotEq) (fEq true) := fun pins s σ H x y v u Q I rx ry ⟨F, dx, dy, z, sub, px, py, e, k⟩ => by
  obtain ⟨p, q, e1, e2, hd, rfl⟩ := fEq_inv e
  exact op_neP hu pins s σ H x y v u Q I rx ry ⟨p, q, by rw [hK]; exact px.dp sub e1, by rw [hK]; exact py.dp sub e2, toP_plain e1, toP_plain e2, hd, fin0 sub k (.bl _)⟩
/-! ### in, not in: lists and tuples of data -/
def fIn (neg : Bool) (x y : D) : Option Rd1 := match y with
  | .lst ys => (toP x).bind fun p => (toPs ys).bind fun qs => if p.depth ≤ 64 then some (.v (.bl (if neg = true then !qs.any fun z => PyData.eqv z p else qs.any fun z => PyData.eqv z p))) else none
  | .tup ys => (toP x).bind fun p => (toPs ys).bind fun qs => if p.depth ≤ 64 then some (.v (.bl (if neg = true then !qs.any fun z => PyData.eqv z p else qs.any fun z => PyData.eqv z p))) else none
  | .str t => match x with
    | .str s => some (.v (.bl (if neg = true then !(!(Builtin.Str.occurrences t s 0 t.length 1).isEmpty) else !(Builtin.Str.occurrences t s 0 t.length 1).isEmpty)))
    | _ => none
  | _ => none
theorem fIn_seq {neg : Bool} {x : D} {ys : List D} {z : Rd1} (e : ((toP x).bind fun p => (toPs ys).bind fun qs => if p.depth ≤ 64 then some (Rd1.v (.bl (if neg = true then !qs.any fun z => PyData.eqv z p else qs.any fun z => PyData.eqv z p))) else none) = some z) :
    ∃ p qs, toP x = some p ∧ toPs ys = some qs ∧ p.depth ≤ 64 ∧ z = .v (.bl (if neg = true then !qs.any fun z => PyData.eqv z p else qs.any fun z => PyData.eqv z p)) := by
  cases q1 : toP x with
  | none => rw [q1] at e; cases e
  | some p =>
    cases q2 : toPs ys with
    | none => rw [q1, q2] at e; cases e
    | some q =>
      rw [q1, q2] at e
      simp only [Option.bind_some] at e
      by_cases h : p.depth ≤ 64
      · rw [if_pos h] at e; cases e; exact ⟨p, q, rfl, rfl, h, rfl⟩
      · rw [if_neg h] at e; cases e
theorem in_room {A : Around} {a b : Nat} (hu : A.units + 66 < cLine) (h : b ≤ 64) : A.units + 1 + min a b < cLine := by
  have := Nat.min_le_right a b
  omega
theorem od_in (hK : X.K = E.K) (hu : X.A.units + 66 < cLine) : OpD X E (compareOp .In) (fIn false) := fun pins s σ H x y v u Q I rx ry ⟨F, dx, dy, z, sub, px, py, e, k⟩ => by
  cases dy with
  | lst ys =>
    obtain ⟨p, qs, e1, e2, hd, rfl⟩ := fIn_seq (neg := false) e
    obtain ⟨as, r1⟩ := Dp.reads I p x v (by rw [hK]; exact px.dp sub e1) rx
    obtain ⟨bs, r2⟩ := Dp.reads I (.list qs) y u (by rw [hK]; exact py.dp sub (by simp only [toP]; rw [e2]; rfl)) ry
    exact SeqAt.in_list_data r2 r1 (toPs_plain e2) (toP_plain e1) (in_room hu hd) ⟨.bl _, H, I, rfl, fin0 sub k (.bl _)⟩
  | tup ys =>
    obtain ⟨p, qs, e1, e2, hd, rfl⟩ := fIn_seq (neg := false) e
    obtain ⟨as, r1⟩ := Dp.reads I p x v (by rw [hK]; exact px.dp sub e1) rx
    obtain ⟨bs, r2⟩ := Dp.reads I (.tuple qs) y u (by rw [hK]; exact py.dp sub (by simp only [toP]; rw [e2]; rfl)) ry
    exact SeqAt.in_tuple_data r2 r1 (toPs_plain e2) (toP_plain e1) (in_room hu hd) ⟨.bl _, H, I, rfl, fin0 sub k (.bl _)⟩
  | str t =>
    cases dx with
    | str t2 =>
      cases e
      exact op_in_str pins s σ H x y v u Q I rx ry ⟨t2, t, px.str, py.str, fin0 sub k (.bl _)⟩
    | _ => cases e
  | _ => cases e
theorem od_nin (hK : X.K = E.K) (hu : X.A.units + 66 < cLine) : OpD X E (compareOp .NotIn) (fIn true) := fun pins s σ H x y v u Q I rx ry ⟨F, dx, dy, z, sub, px, py, e, k⟩ => by
  cases dy with
  | lst ys =>
    obtain ⟨p, qs, e1, e2, hd, rfl⟩ := fIn_seq (neg := true) e
    obtain ⟨as, r1⟩ := Dp.reads I p x v (by rw [hK]; exact px.dp sub e1) rx
    obtain ⟨bs, r2⟩ := Dp.reads I (.list qs) y u (by rw [hK]; exact py.dp sub (by simp only [toP]; rw [e2]; rfl)) ry
    exact SeqAt.notIn_list_data r2 r1 (toPs_plain e2) (toP_plain e1) (in_room hu hd) ⟨.bl _, H, I, rfl, fin0 sub k (.bl _)⟩
  | tup ys =>
    obtain ⟨p, qs, e1, e2, hd, rfl⟩ := fIn_seq (neg := true) e
    obtain ⟨as, r1⟩ := Dp.reads I p x v (by rw [hK]; exact px.dp sub e1) rx
    obtain ⟨bs, r2⟩ := Dp.reads I (.tuple qs) y u (by rw [hK]; exact py.dp sub (by simp only [toP]; rw [e2]; rfl)) ry
    exact SeqAt.notIn_tuple_data r2 r1 (toPs_plain e2) (toP_plain e1) (in_room hu hd) ⟨.bl _, H, I, rfl, fin0 sub k (.bl _)⟩
  | str t =>
    cases dx with
    | str t2 =>
      cases e
      exact op_notin_str pins s σ H x y v u Q I rx ry ⟨t2, t, px.str, py.str, fin0 sub k (.bl _)⟩
    | _ => cases e
  | _ => cases e
/-! ### order -/
def okL (x y : PyData) : Bool := okD x y && decide (x.depth ≤ 60)
def fLt (x y : D) : Option Rd1 := (toP x).bind fun p => (toP y).bind fun q => if okL p q = true then some (.v (.bl (ltD p q))) else none
theorem od_lt (hK : X.K = E.K) (hu : X.A.units + 64 < cLine) : OpD X E (compareOp .Lt) fLt := fun pins s σ H x y v u Q I rx ry ⟨F, dx, dy, z, sub, px, py, e, k⟩ => by
  unfold fLt at e
  cases q1 : toP dx with
  | none => rw [q1] at e; cases e
  | some p =>
    cases q2 : toP dy with
    | none => rw [q1, q2] at e; cases e
    | some q =>
      rw [q1, q2] at e
      simp only [Option.bind_some] at e
      by_cases h : okL p q = true
      · rw [if_pos h] at e
        cases e
        unfold okL at h
        rw [Bool.and_eq_true, decide_eq_true_eq] at h
        exact op_ltD hu pins s σ H x y v u Q I rx ry ⟨p, q, by rw [hK]; exact px.dp sub q1, by rw [hK]; exact py.dp sub q2, h.1, toP_plain q1, toP_plain q2, h.2, fin0 sub k (.bl _)⟩
      · rw [if_neg h] at e; cases e
def fI2 (g : Int → Int → D) (x y : D) : Option Rd1 := match x, y with
  | .int i, .int j => some (.v (g i j))
  | _, _ => none
theorem od_i2 {g : Int → Int → V} {h : Int → Int → D} {f : Value → Value → Sem Value} (o : OpR X f (rI0 g)) (r : ∀ F i j, At E F (g i j) (h i j)) : OpD X E f (fI2 h) := fun pins s σ H x y v u Q I rx ry ⟨F, dx, dy, z, sub, px, py, e, k⟩ => by
  cases dx with
  | int i =>
    cases dy with
    | int j => cases e; exact o pins s σ H x y v u Q I rx ry ⟨i, j, px.int, py.int, fin0 sub k (r F i j)⟩
    | _ => cases e
  | _ => cases e
def fI2c (c : Int → Int → Bool) (g : Int → Int → D) (x y : D) : Option Rd1 := match x, y with
  | .int i, .int j => if c i j = true then some (.v (g i j)) else none
  | _, _ => none
theorem od_i2c {c : Int → Int → Bool} {C : Int → Int → Prop} {g : Int → Int → V} {h : Int → Int → D} {f : Value → Value → Sem Value} (o : OpR X f (L2.rI C g)) (hc : ∀ i j, c i j = true → C i j) (r : ∀ F i j, At E F (g i j) (h i j)) : OpD X E f (fI2c c h) := fun pins s σ H x y v u Q I rx ry ⟨F, dx, dy, z, sub, px, py, e, k⟩ => by
  cases dx with
  | int i =>
    cases dy with
    | int j =>
      have e : (if c i j = true then some (Rd1.v (h i j)) else none) = some z := e
      by_cases q : c i j = true
      · rw [if_pos q] at e
        cases e
        exact o pins s σ H x y v u Q I rx ry ⟨i, j, px.int, py.int, hc i j q, fin0 sub k (r F i j)⟩
      · rw [if_neg q] at e; cases e
    | _ => cases e
  | _ => cases e
theorem od_le : OpD X E (compareOp .LtE) (fI2 fun i j => .bl (decide (i ≤ j))) := od_i2 op_le fun _ _ _ => .bl _
theorem od_gt : OpD X E (compareOp .Gt) (fI2 fun i j => .bl (decide (j < i))) := od_i2 op_gt fun _ _ _ => .bl _
theorem od_ge : OpD X E (compareOp .GtE) (fI2 fun i j => .bl (decide (j ≤ i))) := od_i2 op_ge fun _ _ _ => .bl _
theorem od_sub : OpD X E (binaryOp .Sub) (fI2 fun i j => .int (i - j)) := od_i2 op_sub fun _ _ _ => .int _
theorem od_and : OpD X E (binaryOp .BitAnd) (fI2 fun i j => .int (Builtin.bitAnd i j)) := od_i2 op_and fun _ _ _ => .int _
theorem od_or : OpD X E (binaryOp .BitOr) (fI2 fun i j => .int (Builtin.bitOr i j)) := od_i2 op_or fun _ _ _ => .int _
theorem od_mod : OpD X E (binaryOp .Mod) (fI2c (fun _ j => decide (0 < j)) fun i j => .int (i % j)) := od_i2c op_mod (fun _ _ h => of_decide_eq_true h) fun _ _ _ => .int _
theorem od_div : OpD X E (binaryOp .FloorDiv) (fI2c (fun _ j => decide (0 < j ∧ j < 1073741824)) fun i j => .int (i / j)) := od_i2c op_fdiv (fun i j h => show 0 < j ∧ j < 1073741824 from of_decide_eq_true h) fun _ _ _ => .int _
theorem od_shl : OpD X E (binaryOp .LShift) (fI2c (fun i j => decide (0 ≤ j ∧ j ≤ 1000000 ∧ i.natAbs < 2 ^ 64)) fun i j => .int (i * 2 ^ j.toNat)) := od_i2c op_shl (fun i j h => show 0 ≤ j ∧ j ≤ 1000000 ∧ i.natAbs < 2 ^ 64 from of_decide_eq_true h) fun _ _ _ => .int _
theorem od_shr : OpD X E (binaryOp .RShift) (fI2c (fun _ j => decide (0 ≤ j)) fun i j => .int (i / 2 ^ j.toNat)) := od_i2c op_shr (fun _ _ h => of_decide_eq_true h) fun _ _ _ => .int _
/-! ### + -/
def fAdd (x y : D) : Option Rd1 := match x, y with
  | .int i, .int j => some (.v (.int (i + j)))
  | .str i, .str j => if i.length + j.length ≤ 100000 then some (.v (.str (i ++ j))) else none
  | .tup xs, .tup ys => if xs.length + ys.length ≤ 100000 then some (.v (.tup (xs ++ ys))) else none
  | .lst xs, .lst ys => if xs.length + ys.length ≤ 100000 then some (.n (.lst (xs ++ ys))) else none
  | _, _ => none
theorem line5 {n : Nat} (h : n ≤ 100000) : n ≤ sizeLine := Nat.le_trans h (by decide)
theorem op_catL : OpR X (binaryOp .Add) (fun x y H Q => ∃ l b xs zs, x = .ref l ∧ y = .ref b ∧ Rd H l (.lst xs) ∧ Rd H b (.lst zs) ∧ xs.length + zs.length ≤ sizeLine ∧ ∀ p, H p = none → Q (.ref p) (upd H p (.lst (xs ++ zs)))) := by
  intro pins s σ H x y v u Q I rx ry h
  obtain ⟨l, b, xs, zs, rfl, rfl, hH, hB, hz, q⟩ := h
  cases rx
  cases ry
  obtain ⟨z, its, n, r, e⟩ := hH.ok I.hok
  obtain ⟨z2, its2, n2, r2, e2⟩ := hB.ok I.hok
  have l1 := r.length
  have l2 := r2.length
  refine PySem.P.add_list e e2 ?_ (by rw [List.size_toArray, List.size_toArray]; omega)
  have ea : its.toArray ++ its2.toArray = (its ++ its2).toArray := by simp
  rw [ea]
  exact ⟨.ref _, _, I.lnew (t' := s.toks) (r.append r2) (by rw [List.length_append]; omega), rfl, q _ I.fresh⟩
theorem od_add (hK : X.K = E.K) : OpD X E (binaryOp .Add) fAdd := fun pins s σ H x y v u Q I rx ry ⟨F, dx, dy, z, sub, px, py, e, k⟩ => by
  cases dx with
  | int i =>
    cases dy with
    | int j => cases e; exact op_add pins s σ H x y v u Q I rx ry ⟨i, j, px.int, py.int, fin0 sub k (.int _)⟩
    | _ => cases e
  | str i =>
    cases dy with
    | str j =>
      have e : (if i.length + j.length ≤ 100000 then some (Rd1.v (.str (i ++ j))) else none) = some z := e
      by_cases q : i.length + j.length ≤ 100000
      · rw [if_pos q] at e
        cases e
        exact op_add_str pins s σ H x y v u Q I rx ry ⟨i, j, px.str, py.str, line5 q, fin0 sub k (.str _)⟩
      · rw [if_neg q] at e; cases e
    | _ => cases e
  | tup xs =>
    cases dy with
    | tup ys =>
      have e : (if xs.length + ys.length ≤ 100000 then some (Rd1.v (.tup (xs ++ ys))) else none) = some z := e
      by_cases q : xs.length + ys.length ≤ 100000
      · rw [if_pos q] at e
        cases e
        obtain ⟨a, vs, rfl, h1, r1, f1⟩ := px.tupF
        obtain ⟨b, ws, rfl, h2, r2, f2⟩ := py.tupF
        refine op_catF pins s σ H _ _ v u Q I rx ry ⟨a, b, vs, ws, rfl, rfl, by rw [hK]; exact sub.tupS h1, by rw [hK]; exact sub.tupS h2, by rw [r1.len, r2.len]; exact line5 q, fun e => ?_, fun e => ?_, finT sub k (r1.app r2)⟩
        · subst e
          cases r1
          exact fin0 sub k (.tup h2 r2 f2)
        · subst e
          cases r2
          exact fin0 sub k (by rw [List.append_nil]; exact .tup h1 r1 f1)
      · rw [if_neg q] at e; cases e
    | _ => cases e
  | lst xs =>
    cases dy with
    | lst ys =>
      have e : (if xs.length + ys.length ≤ 100000 then some (Rd1.n (.lst (xs ++ ys))) else none) = some z := e
      by_cases q : xs.length + ys.length ≤ 100000
      · rw [if_pos q] at e
        cases e
        obtain ⟨a, vs, rfl, h1, r1⟩ := px.list sub
        obtain ⟨b, ws, rfl, h2, r2⟩ := py.list sub
        exact op_catL pins s σ H _ _ v u Q I rx ry ⟨a, b, vs, ws, rfl, rfl, .inl h1, .inl h2, by rw [r1.len, r2.len]; exact line5 q, finL sub k (r1.app r2)⟩
      · rw [if_neg q] at e; cases e
    | _ => cases e
  | _ => cases e
end
end TL
set_option Elab.async false
set_option linter.all false
set_option maxRecDepth 100000
set_option maxHeartbeats 1000000
/-! Uh: len, isinstance, all, any, tuple, list, items, parts. -/
namespace TL
open PySem PySem.Spec PyProof.Rows L2 Gd
/-! ### what an own class is to isinstance -/
/-- each class by number: an own class whose instances are of no built-in kind -/
structure ClsOk (E : Ev) : Prop where
  pl : ∀ {F : Hp} {a dx : Addr} {c : Nat} {fs : List (Str × V)}, F a = some (.ins (E.cm c) dx fs) → PlainC E.K (E.cm c)
def isSc : D → Bool
  | .int _ => true
  | .str _ => true
  | _ => false
/-- keys that are ints and texts | tuples -/
def scK (ps : List (D × D)) : Bool := ps.all fun p => isSc p.1
def isTu : D → Bool
  | .tup _ => true
  | _ => false
def tuK (ps : List (D × D)) : Bool := ps.all fun p => isTu p.1
theorem kn_tup {d : D} {k : NestedKey} (h : kn d = some k) : ∃ ds, d = .tup ds := by
  unfold kn at h
  cases d with
  | tup ds => exact ⟨ds, rfl⟩
  | lst ds =>
    simp only [toP] at h
    cases q : toPs ds with
    | none => rw [q] at h; cases h
    | some ps => rw [q] at h; cases h
  | _ => simp only [toP] at h; cases h
theorem atn_sc {E : Ev} {F : Hp} {xs : NE} {ps : List (D × D)} (h : Atn E F xs ps) (n : xs ≠ []) : scK ps = false := by
  cases h with
  | nil => exact absurd rfl n
  | cons hk q h r =>
    obtain ⟨ds, rfl⟩ := kn_tup q
    rfl
theorem atk_tu {E : Ev} {F : Hp} {xs : List (Key × V)} {ps : List (D × D)} (h : Atk E F xs ps) (n : ps ≠ []) : tuK ps = false := by
  cases h with
  | nil => exact absurd rfl n
  | cons hk h r =>
    rename_i k v vs e d ds
    cases k with
    | inl i => cases hk; rfl
    | inr x => cases hk; rfl
theorem atk_sc {E : Ev} {F : Hp} : ∀ {xs : List (Key × V)} {ps : List (D × D)}, Atk E F xs ps → scK ps = true
  | _, _, .nil => rfl
  | _, _, .cons (k := k) hk h r => by
    unfold scK
    rw [List.all_cons]
    have z := atk_sc r
    unfold scK at z
    rw [z, Bool.and_true]
    cases k with
    | inl i => cases hk; rfl
    | inr x => cases hk; rfl
theorem atn_tu {E : Ev} {F : Hp} : ∀ {xs : NE} {ps : List (D × D)}, Atn E F xs ps → tuK ps = true
  | _, _, .nil => rfl
  | _, _, .cons hk q h r => by
    unfold tuK
    rw [List.all_cons]
    have z := atn_tu r
    unfold tuK at z
    rw [z, Bool.and_true]
    obtain ⟨ds, rfl⟩ := kn_tup q
    rfl
def D.isT : D → String → Bool
  | .non, T => kindIs "NoneType" T
  | .bl _, T => kindIs "bool" T
  | .int _, T => kindIs "int" T
  | .str _, T => kindIs "str" T
  | .lst _, T => kindIs "list" T
  | .dic _, T => kindIs "dict" T
  | .tup _, T => kindIs "tuple" T
  | .pr _, T => kindIs "tuple" T
  | _, _ => false
def D.tyV (E : Ev) : D → Value
  | .non => .type "NoneType"
  | .bl _ => .type "bool"
  | .int _ => .type "int"
  | .str _ => .type "str"
  | .lst _ => .type "list"
  | .dic _ => .type "dict"
  | .obj c _ => .ref (E.cm c)
  | .tup _ => .type "tuple"
  | .pr _ => .type "tuple"
  | _ => .none
section
variable {E : Ev} {F H : Hp}
theorem At.tyX (ok : ClsOk E) {v : V} {d : D} (h : At E H v d) (n1 : ∀ x, d ≠ .ty x) (n2 : ∀ x, d ≠ .cls x) (n3 : ∀ ps, d = .dic ps → scK ps = true) (n4 : ∀ ns, d ≠ .scr ns) : TyX E.K H v (d.tyV E) := by
  cases h with
  | non => exact .base .non
  | bl b => exact .base (.bl b)
  | int i => exact .base (.int i)
  | str x => exact .base (.str x)
  | ty x => exact absurd rfl (n1 x)
  | cls x => exact absurd rfl (n2 x)
  | scr h => exact absurd rfl (n4 _)
  | lst h r => exact .base (.lst h)
  | dic h r =>
    rcases h with h | ⟨o, h⟩
    · exact .base (.dK h)
    · exact .fDict h
  | dicN h n r => have := n3 _ rfl; rw [atn_sc r n] at this; cases this
  | obj h r =>
    have c := ok.pl h
    exact .base (.ins h c.cl c.ha c.hn c.ht c.hm)
  | tup h r =>
    rcases h with (h | ⟨o, h⟩) | ⟨o, its, n, hk, hc, _⟩
    · exact .base (.tup h)
    · exact .fTuple h
    · exact .kTuple hk hc
  | pr h r =>
    rcases h with (h | ⟨o, h⟩) | ⟨o, its, n, hk, hc, _⟩
    · exact .base (.tup h)
    · exact .fTuple h
    · exact .kTuple hk hc
theorem At.kit (ok : ClsOk E) {v : V} {d : D} (h : At E H v d) (n1 : ∀ x, d ≠ .ty x) (n2 : ∀ x, d ≠ .cls x) (n3 : ∀ ps, d = .dic ps → scK ps = true) (n4 : ∀ ns, d ≠ .scr ns) {T : String} (hT : T = "int" ∨ T = "bool" ∨ T = "str" ∨ T = "tuple" ∨ T = "dict") : PySem.W.kitOne E.K (d.tyV E) (.type T) = some (d.isT T) := by
  cases h with
  | obj h c => exact (ok.pl h).no T hT
  | dicN h n r => have := n3 _ rfl; rw [atn_sc r n] at this; cases this
  | ty x => exact absurd rfl (n1 x)
  | cls x => exact absurd rfl (n2 x)
  | scr h => exact absurd rfl (n4 _)
  | non => rcases hT with rfl | rfl | rfl | rfl | rfl <;> exact kit_ty (show kitB "NoneType" _ = some (kindIs "NoneType" _) by decide +kernel)
  | bl b => rcases hT with rfl | rfl | rfl | rfl | rfl <;> exact kit_ty (show kitB "bool" _ = some (kindIs "bool" _) by decide +kernel)
  | int i => rcases hT with rfl | rfl | rfl | rfl | rfl <;> exact kit_ty (show kitB "int" _ = some (kindIs "int" _) by decide +kernel)
  | str x => rcases hT with rfl | rfl | rfl | rfl | rfl <;> exact kit_ty (show kitB "str" _ = some (kindIs "str" _) by decide +kernel)
  | lst h r => rcases hT with rfl | rfl | rfl | rfl | rfl <;> exact kit_ty (show kitB "list" _ = some (kindIs "list" _) by decide +kernel)
  | dic h r => rcases hT with rfl | rfl | rfl | rfl | rfl <;> exact kit_ty (show kitB "dict" _ = some (kindIs "dict" _) by decide +kernel)
  | tup h r => rcases hT with rfl | rfl | rfl | rfl | rfl <;> exact kit_ty (show kitB "tuple" _ = some (kindIs "tuple" _) by decide +kernel)
  | pr h r => rcases hT with rfl | rfl | rfl | rfl | rfl <;> exact kit_ty (show kitB "tuple" _ = some (kindIs "tuple" _) by decide +kernel)
end
def tyOk (T : String) : Bool := T == "int" || T == "bool" || T == "str" || T == "tuple" || T == "dict"
theorem tyOk_or {T : String} (h : tyOk T = true) : T = "int" ∨ T = "bool" ∨ T = "str" ∨ T = "tuple" ∨ T = "dict" := by
  unfold tyOk at h
  simp only [Bool.or_eq_true, beq_iff_eq] at h
  rcases h with (((h | h) | h) | h) | h
  · exact .inl h
  · exact .inr (.inl h)
  · exact .inr (.inr (.inl h))
  · exact .inr (.inr (.inr (.inl h)))
  · exact .inr (.inr (.inr (.inr h)))
def notTy : D → Bool
  | .ty _ => false
  | .cls _ => false
  | .scr _ => false
  | .dic ps => scK ps
  | _ => true
def fIs (ds : List D) : Option Rd1 := match ds with
  | [d, .ty T] => if notTy d = true ∧ tyOk T = true then some (.v (.bl (d.isT T))) else none
  | _ => none
section
variable {X : Cx} {E : Ev}
theorem cd_isi (hK : X.K = E.K) (ok : ClsOk E) : CallD X E (.builtin "isinstance") fIs := fun pins s σ H xs us Q I r ⟨F, ds, z, sub, px, e, k⟩ => by
  unfold fIs at e
  split at e
  · rename_i d T
    by_cases c : notTy d = true ∧ tyOk T = true
    · rw [if_pos c] at e
      cases e
      obtain ⟨v, u, rfl, pv, pu⟩ := pks2 px
      have au := pu.at sub
      cases au
      have av := pv.at sub
      have n1 : ∀ x, d ≠ .ty x := fun x z => by subst z; exact absurd c.1 (by simp [notTy])
      have n2 : ∀ x, d ≠ .cls x := fun x z => by subst z; exact absurd c.1 (by simp [notTy])
      have n3 : ∀ ps, d = .dic ps → scK ps = true := fun ps z => by subst z; exact c.1
      have n4 : ∀ ns, d ≠ .scr ns := fun ns z => by subst z; exact absurd c.1 (by simp [notTy])
      exact call_isi pins s σ H _ us Q I r ⟨_, _, _, _, _, rfl, .ty _, by rw [hK]; exact av.tyX ok n1 n2 n3 n4, by rw [hK]; exact av.kit ok n1 n2 n3 n4 (tyOk_or c.2), fin0 sub k (.bl _)⟩
    · rw [if_neg c] at e; cases e
  · cases e
/-! ### len -/
def fLen (ds : List D) : Option Rd1 := match ds with
  | [.lst xs] => some (.v (.int xs.length))
  | [.tup xs] => some (.v (.int xs.length))
  | [.str x] => if x.length ≤ 100000 then some (.v (.int x.length)) else none
  | [.dic kvs] => some (.v (.int kvs.length))
  | [.scr ns] => some (.v (.int ns.length))
  | _ => none
theorem atk_len {F : Hp} : ∀ {vs : List (Key × V)} {ds : List (D × D)}, Atk E F vs ds → vs.length = ds.length
  | _, _, .nil => rfl
  | _, _, .cons _ _ r => congrArg (· + 1) (atk_len r)
theorem atn_len {F : Hp} : ∀ {vs : NE} {ds : List (D × D)}, Atn E F vs ds → vs.length = ds.length
  | _, _, .nil => rfl
  | _, _, .cons _ _ _ r => congrArg (· + 1) (atn_len r)
/-- a dict, as it stands -/
theorem Pk.dic {F H : Hp} {v : V} {ds : List (D × D)} (s : Same F H) (h : Pk E F H v (.dic ds)) : ∃ a, v = .ref a ∧ ((∃ vs, Rd H a (.dK vs) ∧ Atk E F vs ds) ∨ ∃ xs, Rd H a (NDicO E.w a xs) ∧ xs ≠ [] ∧ Atn E F xs ds) := by
  rcases h with h | ⟨a, o, c, rfl, h, r, e⟩
  · cases h with
    | dic h r => exact ⟨_, rfl, .inl ⟨_, (Sm.of s).rd h, r⟩⟩
    | dicN h n r => exact ⟨_, rfl, .inr ⟨_, (Sm.of s).rd h, n, r⟩⟩
  · cases c with
    | dic es =>
      cases e
      rcases r with ⟨vs, rfl, r⟩ | ⟨xs, rfl, n, r⟩
      · exact ⟨a, rfl, .inl ⟨vs, .inl h, r⟩⟩
      · exact ⟨a, rfl, .inr ⟨xs, .inl h, n, r⟩⟩
    | lst _ => cases e
    | ins _ _ => cases e
/-- the keys of such a dict stand -/
theorem atn_keys {F H : Hp} {pins : List (Addr × Obj)} {s : Shared} {σ : L2.St} (hK : X.K = E.K) (I : Inv X pins σ H s) (sub : Same F H) {e : D} {b : Addr} {k : NestedKey} (a : At E F (.ref b) e) (q : kn e = some k) : (nestedKind X.prog X.w).is s.heap k b := by
  unfold kn at q
  split at q
  · rename_i ps ep
    by_cases c : tOnlys ps = true ∧ PyData.depth (.tuple ps) ≤ 8
    · rw [if_pos c] at q
      cases q
      obtain ⟨as, r⟩ := Dp.reads I _ (V.ref b) (Value.ref b) (by rw [hK]; exact at_dp (a.mv (.of sub)) ep) (show L2.RelV (V.ref b) (Value.ref b) from rfl)
      exact ⟨nk_is _ _ _ (by rw [tOnly]; exact c.1) r, Nat.le_trans (nk_depth _) c.2⟩
    · rw [if_neg c] at q; cases q
  · cases q
theorem atn_kok {F H : Hp} {pins : List (Addr × Obj)} {s : Shared} {σ : L2.St} (hK : X.K = E.K) (I : Inv X pins σ H s) (sub : Same F H) : ∀ {xs : NE} {ps : List (D × D)}, Atn E F xs ps → KOk X.prog X.w s.heap xs
  | _, _, .nil => fun p hp => by cases hp
  | _, _, .cons hk q h r => fun p hp => by
    rcases List.mem_cons.mp hp with rfl | hp
    · exact atn_keys hK I sub hk q
    · exact atn_kok hK I sub r p hp
theorem call_lenK : CallR X (.builtin "len") (fun xs H Q => ∃ p ys, xs = [.ref p] ∧ Rd H p (.dK ys) ∧ Q (.int ys.length) H) := by
  intro pins s σ H xs us Q I r h
  obtain ⟨p, ys, rfl, hq, q⟩ := h
  obtain ⟨u, rfl, ru⟩ := vals1 r
  obtain rfl : u = Value.ref p := ru
  exact d_len I hq fun t s' I' => ⟨.int _, H, I', ⟨t, rfl⟩, q⟩
theorem cd_len (hK : X.K = E.K) (hw : X.w = E.w) : CallD X E (.builtin "len") fLen := fun pins s σ H xs us Q I r ⟨F, ds, z, sub, px, e, k⟩ => by
  unfold fLen at e
  split at e
  · cases e
    obtain ⟨v, rfl, pv⟩ := pks1 px
    obtain ⟨a, vs, rfl, h, r1⟩ := pv.list sub
    exact call_len_seq pins s σ H _ us Q I r ⟨a, vs, rfl, .inl (SqL.of h), by rw [r1.len]; exact fin0 sub k (.int _)⟩
  · cases e
    obtain ⟨v, rfl, pv⟩ := pks1 px
    obtain ⟨a, vs, rfl, h, r1⟩ := pv.tup
    exact call_len_seq pins s σ H _ us Q I r ⟨a, vs, rfl, .inr (by rw [hK]; exact sub.tupS h), by rw [r1.len]; exact fin0 sub k (.int _)⟩
  · rename_i x
    by_cases c : x.length ≤ 100000
    · rw [if_pos c] at e
      cases e
      obtain ⟨v, rfl, pv⟩ := pks1 px
      cases pv.str
      exact call_len_str pins s σ H _ us Q I r ⟨x, rfl, line5 c, fin0 sub k (.int _)⟩
    · rw [if_neg c] at e; cases e
  · cases e
    obtain ⟨v, rfl, pv⟩ := pks1 px
    obtain ⟨a, rfl, ⟨vs, h, r1⟩ | ⟨xs, h, n, r1⟩⟩ := pv.dic sub
    · exact call_lenK pins s σ H _ us Q I r ⟨a, vs, rfl, h, by rw [atk_len r1]; exact fin0 sub k (.int _)⟩
    · obtain ⟨u, rfl, ru⟩ := vals1 r
      obtain rfl : u = Value.ref a := ru
      refine nd_len I (by rw [hw]; exact IsR.rd h) (atn_kok hK I sub r1) fun t t' => ⟨.int _, H, I.tok t', ⟨t, by rw [atn_len r1]⟩, fin0 sub k (.int _)⟩
  · rename_i ns
    cases e
    obtain ⟨v, rfl, pv⟩ := pks1 px
    have av := pv.at sub
    cases av with
    | scr h => exact call_len_seq pins s σ H _ us Q I r ⟨_, _, rfl, .inl (by rw [hK]; exact h), by rw [List.length_map]; exact fin0 sub k (.int _)⟩
  · cases e
end
end TL
set_option Elab.async false
set_option linter.all false
set_option maxRecDepth 100000
set_option maxHeartbeats 1000000
/-! Ui: subscripts, parts; all, any; tuple, list; abs, max, min, int, str; cells that change. -/
namespace TL
open PySem PySem.Spec PyProof.Rows L2 Gd
theorem PE.or {X : Cx} {e : Expr} {t t' : TE} (h : PE X e t) (h' : PE X e t') : PE X e (fun σ H Q => t σ H Q ∨ t' σ H Q) := ⟨fun pins s σ H Q I q => q.elim (h.run pins s σ H Q I) (h'.run pins s σ H Q I)⟩
theorem PS.or {X : Cx} {e : Stmt} {t t' : TS} (h : PS X e t) (h' : PS X e t') : PS X e (fun D σ H => t D σ H ∨ t' D σ H) := ⟨fun pins s σ H D I q => q.elim (h.run pins s σ H D I) (h'.run pins s σ H D I)⟩
abbrev UKey := Key ⊕ NestedKey
def dk : D → Option Key
  | .int i => some (.inl i)
  | .str x => some (.inr x)
  | _ => none
def ukey : D → Option UKey
  | .int i => some (.inl (.inl i))
  | .str x => some (.inl (.inr x))
  | d => (kn d).map .inr
theorem at_key {E : Ev} {F : Hp} {k : Key} {e : D} (h : At E F (kV k) e) : ukey e = some (.inl k) := by
  cases k with
  | inl i => cases h; rfl
  | inr x => cases h; rfl
theorem key_at {E : Ev} {F : Hp} {k : Key} {e : D} {v : V} (h : At E F v e) (q : ukey e = some (.inl k)) : v = kV k := by
  cases h with
  | int i => cases q; rfl
  | str x => cases q; rfl
  | _ =>
    simp only [ukey] at q
    first
    | (cases hq : kn _ with
       | none => rw [hq] at q; cases q
       | some z => rw [hq] at q; cases q)
theorem at_tkey {E : Ev} {F : Hp} {k : NestedKey} {e : D} {v : V} (h : At E F v e) (q : ukey e = some (.inr k)) : ∃ b, v = .ref b ∧ kn e = some k := by
  cases h with
  | int i => cases q
  | str x => cases q
  | tup h r =>
    simp only [ukey] at q
    cases hq : kn (.tup _) with
    | none => rw [hq] at q; cases q
    | some z => rw [hq] at q; cases q; exact ⟨_, rfl, rfl⟩
  | _ =>
    exfalso
    simp only [ukey] at q
    cases hq : kn _ with
    | none => rw [hq] at q; cases q
    | some z => obtain ⟨ds, e⟩ := kn_tup hq; cases e
theorem kn_ukey {d : D} {k : NestedKey} (h : kn d = some k) : ukey d = some (.inr k) := by
  obtain ⟨ds, rfl⟩ := kn_tup h
  simp only [ukey]
  rw [h]
  rfl
/-- what stands under a key -/
def dval (ps : List (D × D)) (k : UKey) : Option D := (ps.find? fun p => decide (ukey p.1 = some k)).map (·.2)
def dput (ps : List (D × D)) (k : UKey) (e v : D) : List (D × D) := if (ps.any fun p => decide (ukey p.1 = some k)) = true then ps.map (fun p => if ukey p.1 = some k then (p.1, v) else p) else ps ++ [(e, v)]
theorem atk_val {E : Ev} {F : Hp} {k : Key} : ∀ {vs : List (Key × V)} {ps : List (D × D)}, Atk E F vs ps → (∀ d, dval ps (.inl k) = some d → ∃ v, valV vs k = some v ∧ At E F v d) ∧ (dval ps (.inl k) = none → valV vs k = none)
  | _, _, .nil => ⟨(fun d h => by cases h), fun _ => rfl⟩
  | _, _, .cons (k := k') (v := v) (vs := vs) (e := e) (d := d) (ds := ds) hk h r => by
    have q := at_key hk
    obtain ⟨i1, i2⟩ := atk_val (k := k) r
    unfold dval at i1 i2 ⊢
    by_cases z : k' = k
    · subst z
      rw [List.find?_cons_of_pos (by simp [q])]
      exact ⟨(fun d' e => by cases e; exact ⟨v, valV_pos rfl, h⟩), (fun e => by cases e)⟩
    · rw [List.find?_cons_of_neg (by simp [q, z])]
      exact ⟨(fun d' e => by obtain ⟨v', e1, a⟩ := i1 d' e; exact ⟨v', (by rw [valV_neg (p := (k', v)) z]; exact e1), a⟩), (fun e => by rw [valV_neg (p := (k', v)) z]; exact i2 e)⟩
theorem atk_any {E : Ev} {F : Hp} {k : Key} : ∀ {vs : List (Key × V)} {ps : List (D × D)}, Atk E F vs ps → (vs.any fun p => decide (p.1 = k)) = ps.any fun p => decide (ukey p.1 = some (.inl k))
  | _, _, .nil => rfl
  | _, _, .cons (k := k') hk h r => by
    rw [List.any_cons, List.any_cons, atk_any r]
    simp only [at_key hk, Option.some.injEq, Sum.inl.injEq]
theorem atk_map {E : Ev} {F : Hp} {k : Key} {v : V} {d : D} (a : At E F v d) : ∀ {vs : List (Key × V)} {ps : List (D × D)}, Atk E F vs ps → Atk E F (vs.map fun kv => if kv.1 = k then (kv.1, v) else kv) (ps.map fun p => if ukey p.1 = some (.inl k) then (p.1, d) else p)
  | _, _, .nil => .nil
  | _, _, .cons (k := k') (v := v') (e := e) (d := d') hk h r => by
    have q := at_key hk
    rw [List.map_cons, List.map_cons]
    by_cases z : k' = k
    · subst z
      rw [if_pos rfl, if_pos (by exact q)]
      exact .cons hk a (atk_map a r)
    · rw [if_neg (by exact z), if_neg (by show ¬ ukey e = some (.inl k); rw [q]; exact fun y => z (Sum.inl.inj (Option.some.inj y)))]
      exact .cons hk h (atk_map a r)
theorem atk_app {E : Ev} {F : Hp} : ∀ {vs ws : List (Key × V)} {ps qs : List (D × D)}, Atk E F vs ps → Atk E F ws qs → Atk E F (vs ++ ws) (ps ++ qs)
  | _, _, _, _, .nil, s => s
  | _, _, _, _, .cons hk h r, s => .cons hk h (atk_app r s)
theorem atk_put {E : Ev} {F : Hp} {k : Key} {v : V} {e d : D} {vs : List (Key × V)} {ps : List (D × D)} (ak : At E F (kV k) e) (a : At E F v d) (r : Atk E F vs ps) : Atk E F (putK vs k v) (dput ps (.inl k) e d) := by
  unfold putK dput
  rw [atk_any r]
  split
  · exact atk_map a r
  · exact atk_app r (.cons ak a .nil)
/-! tuple keys -/
theorem atn_val {E : Ev} {F : Hp} {k : NestedKey} : ∀ {vs : NE} {ps : List (D × D)}, Atn E F vs ps → (∀ d, dval ps (.inr k) = some d → ∃ v, nAt vs k = some v ∧ At E F v d) ∧ (dval ps (.inr k) = none → nAt vs k = none)
  | _, _, .nil => ⟨(fun d h => by cases h), fun _ => rfl⟩
  | _, _, .cons (k := k') (b := b) (v := v) (vs := vs) (e := e) (d := d) (ds := ds) hk q h r => by
    have q := kn_ukey q
    obtain ⟨i1, i2⟩ := atn_val (k := k) r
    unfold dval nAt at i1 i2 ⊢
    by_cases z : k' = k
    · subst z
      rw [List.find?_cons_of_pos (by simp [q]), List.find?_cons_of_pos (by simp)]
      exact ⟨(fun d' e => by cases e; exact ⟨v, rfl, h⟩), (fun e => by cases e)⟩
    · rw [List.find?_cons_of_neg (by simp [q, z]), List.find?_cons_of_neg (by simp [z])]
      exact ⟨i1, i2⟩
theorem atn_any {E : Ev} {F : Hp} {k : NestedKey} : ∀ {vs : NE} {ps : List (D × D)}, Atn E F vs ps → (vs.any fun p => decide (p.1 = k)) = ps.any fun p => decide (ukey p.1 = some (.inr k))
  | _, _, .nil => rfl
  | _, _, .cons (k := k') hk q h r => by
    rw [List.any_cons, List.any_cons, atn_any r]
    simp only [kn_ukey q, Option.some.injEq, Sum.inr.injEq]
theorem atn_map {E : Ev} {F : Hp} {k : NestedKey} {v : V} {d : D} (a : At E F v d) : ∀ {vs : NE} {ps : List (D × D)}, Atn E F vs ps → Atn E F (vs.map fun p => if p.1 = k then (p.1, p.2.1, v) else p) (ps.map fun p => if ukey p.1 = some (.inr k) then (p.1, d) else p)
  | _, _, .nil => .nil
  | _, _, .cons (k := k') (v := v') (e := e) (d := d') hk q h r => by
    have q2 := kn_ukey q
    rw [List.map_cons, List.map_cons]
    by_cases z : k' = k
    · subst z
      rw [if_pos rfl, if_pos (by exact q2)]
      exact .cons hk q a (atn_map a r)
    · rw [if_neg (by exact z), if_neg (by show ¬ ukey e = some (.inr k); rw [q2]; exact fun y => z (Sum.inr.inj (Option.some.inj y)))]
      exact .cons hk q h (atn_map a r)
theorem atn_app {E : Ev} {F : Hp} : ∀ {vs ws : NE} {ps qs : List (D × D)}, Atn E F vs ps → Atn E F ws qs → Atn E F (vs ++ ws) (ps ++ qs)
  | _, _, _, _, .nil, s => s
  | _, _, _, _, .cons hk q h r, s => .cons hk q h (atn_app r s)
theorem atn_put {E : Ev} {F : Hp} {k : NestedKey} {b : Addr} {v : V} {e d : D} {vs : NE} {ps : List (D × D)} (ak : At E F (.ref b) e) (q : kn e = some k) (a : At E F v d) (r : Atn E F vs ps) : Atn E F (nPut vs k b v) (dput ps (.inr k) e d) := by
  unfold nPut dput
  rw [atn_any r]
  split
  · exact atn_map a r
  · exact atn_app r (.cons ak q a .nil)
def lst_at (ds : List D) (i : Int) : Option D := atI ds i
theorem atI_at {E : Ev} {F : Hp} {vs : List V} {ds : List D} {i : Int} {d : D} (r : Ats E F vs ds) (h : atI ds i = some d) : ∃ v, atI vs i = some v ∧ At E F v d := by
  unfold atI at h ⊢
  rw [r.len]
  cases q : ixN ds.length i with
  | none => rw [q] at h; cases h
  | some j =>
    rw [q] at h
    exact r.get h
/-- x[y] -/
def fSub (x y : D) : Option Rd1 := match x with
  | .lst ds => match y with
    | .int i => (atI ds i).map .v
    | _ => none
  | .tup ds => match y with
    | .int i => (atI ds i).map .v
    | _ => none
  | .str z => match y with
    | .int i => if z.length ≤ 100000 then (atI z.cps.toList i).map fun c => .v (.str ⟨#[c]⟩) else none
    | _ => none
  | .dic ps => (ukey y).bind fun k => (dval ps k).map .v
  | .scr ns => match y with
    | .int i => (atI (ns.map D.int) i).map .v
    | _ => none
  | _ => none
theorem ats_its {E : Ev} {F : Hp} : ∀ ns : List Int, Ats E F (ns.map V.int) (ns.map D.int)
  | [] => .nil
  | _ :: r => .cons (.int _) (ats_its r)
section
variable {X : Cx} {E : Ev} {B : Bs} {W : WX} {pos : Pos} {a b : Expr} {ca cb : CE}
def isDic : D → Bool
  | .dic _ => true
  | _ => false
theorem ix_seq (hK : X.K = E.K) : IxR X (fun x y H Q => ∃ F dx dy z, Same F H ∧ Pk E F H x dx ∧ Pk E F H y dy ∧ fSub dx dy = some z ∧ isDic dx = false ∧ ∀ F' H' v, Gr E F H F' H' → R1At E F H F' H' v z → Q v H') := fun value slice pins s σ H x y v u Q I rx ry ⟨F, dx, dy, z, sub, px, py, e, nd, k⟩ hs => by
  cases dx with
  | lst ds =>
    cases dy with
    | int i =>
      have e : (atI ds i).map Rd1.v = some z := e
      cases q : atI ds i with
      | none => rw [q] at e; cases e
      | some d =>
        rw [q] at e
        cases e
        obtain ⟨a, vs, rfl, h, r⟩ := px.list sub
        obtain ⟨w, e1, a1⟩ := atI_at r q
        exact ix_list value slice pins s σ H _ y v u Q I rx ry ⟨a, vs, i, w, rfl, py.int, SqL.of h, e1, fin0 sub k a1⟩ hs
    | _ => cases e
  | scr ns =>
    cases dy with
    | int i =>
      have e : (atI (ns.map D.int) i).map Rd1.v = some z := e
      cases q : atI (ns.map D.int) i with
      | none => rw [q] at e; cases e
      | some d =>
        rw [q] at e
        cases e
        have ax := px.at sub
        cases ax with
        | scr h =>
          obtain ⟨w, e1, a1⟩ := atI_at (F := F) (ats_its ns) q
          exact ix_list value slice pins s σ H _ y v u Q I rx ry ⟨_, _, i, w, rfl, py.int, by rw [hK]; exact h, e1, fin0 sub k a1⟩ hs
    | _ => cases e
  | tup ds =>
    cases dy with
    | int i =>
      have e : (atI ds i).map Rd1.v = some z := e
      cases q : atI ds i with
      | none => rw [q] at e; cases e
      | some d =>
        rw [q] at e
        cases e
        obtain ⟨a, vs, rfl, h, r⟩ := px.tup
        obtain ⟨w, e1, a1⟩ := atI_at r q
        exact ix_tup value slice pins s σ H _ y v u Q I rx ry ⟨a, vs, i, w, rfl, py.int, by rw [hK]; exact sub.tupS h, e1, fin0 sub k a1⟩ hs
    | _ => cases e
  | str t =>
    cases dy with
    | int i =>
      have e : (if t.length ≤ 100000 then (atI t.cps.toList i).map fun c => Rd1.v (.str ⟨#[c]⟩) else none) = some z := e
      by_cases c : t.length ≤ 100000
      · rw [if_pos c] at e
        cases q : atI t.cps.toList i with
        | none => rw [q] at e; cases e
        | some d =>
          rw [q] at e
          cases e
          exact ix_str value slice pins s σ H _ y v u Q I rx ry ⟨t, i, d, px.str, py.int, line5 c, q, fin0 sub k (.str _)⟩ hs
      · rw [if_neg c] at e; cases e
    | _ => cases e
  | dic ps => cases nd
  | _ => cases e
/-- which of two roads a value takes, by what it is -/
theorem two_split {f : D → D → Option Rd1} {σ : L2.St} {H : Hp} {Q : VK} (p : D → Bool) (h : rE E B W (c2 f ca cb) σ H Q) :
    (rE E B W (c2 (fun x y => if p x = true then f x y else none) ca cb) σ H Q) ∨ rE E B W (c2 (fun x y => if p x = true then none else f x y) ca cb) σ H Q := by
  obtain ⟨F, as, G, C, r, C', wd, sr, _, e, po⟩ := h
  have e : (bv (ca G C) fun x C1 => bv (cb G C1) fun y C2 => out ((peek C2 x).bind fun dx => (peek C2 y).bind fun dy => f dx dy) C2) = some (r, C') := e
  have go : ∀ (b : Bool), (∀ (x : Sv) C1 (y : Sv) C2 dx dy, (ca G C = some (x.rs, C1)) → cb G C1 = some (y.rs, C2) → peek C2 x = some dx → peek C2 y = some dy → p dx = b) →
      (bv (ca G C) fun x C1 => bv (cb G C1) fun y C2 => out ((peek C2 x).bind fun dx => (peek C2 y).bind fun dy => if p dx = b then f dx dy else none) C2) = some (r, C') := fun b hb => by
    cases q1 : ca G C with
    | none => rw [q1] at e; cases e
    | some p1 =>
      obtain ⟨x, C1⟩ := p1
      rw [q1] at e
      have main : ∀ (x' : Sv), x = x'.rs → (bv (cb G C1) fun y C2 => out ((peek C2 x').bind fun dx => (peek C2 y).bind fun dy => f dx dy) C2) = some (r, C') → (bv (cb G C1) fun y C2 => out ((peek C2 x').bind fun dx => (peek C2 y).bind fun dy => if p dx = b then f dx dy else none) C2) = some (r, C') := fun x' ex e => by
        cases q2 : cb G C1 with
        | none => rw [q2] at e; cases e
        | some p2 =>
          obtain ⟨y, C2⟩ := p2
          rw [q2] at e
          have main2 : ∀ (y' : Sv), y = y'.rs → out ((peek C2 x').bind fun dx => (peek C2 y').bind fun dy => f dx dy) C2 = some (r, C') → out ((peek C2 x').bind fun dx => (peek C2 y').bind fun dy => if p dx = b then f dx dy else none) C2 = some (r, C') := fun y' ey e => by
            cases q3 : peek C2 x' with
            | none => rw [q3] at e; cases e
            | some dx =>
              cases q4 : peek C2 y' with
              | none => rw [q3, q4] at e; cases e
              | some dy =>
                rw [q3, q4] at e
                simp only [Option.bind_some] at e ⊢
                rw [if_pos (hb x' C1 y' C2 dx dy (by rw [q1, ex]) (by rw [q2, ey]) q3 q4)]
                exact e
          cases y with
          | v d => exact main2 (.v d) rfl e
          | c i => exact main2 (.c i) rfl e
          | n o => cases e
          | ex er => exact e
      cases x with
      | v d => exact main (.v d) rfl e
      | c i => exact main (.c i) rfl e
      | n o => cases e
      | ex er => exact e
  by_cases hh : ∃ (x : Sv) (C1 : Cs) (y : Sv) (C2 : Cs) (dx dy : D), (ca G C = some (x.rs, C1)) ∧ cb G C1 = some (y.rs, C2) ∧ peek C2 x = some dx ∧ peek C2 y = some dy ∧ p dx = true
  · left
    refine ⟨F, as, G, C, r, C', wd, sr, trivial, ?_, po⟩
    refine go true fun x C1 y C2 dx dy h1 h2 h3 h4 => ?_
    obtain ⟨x', C1', y', C2', dx', dy', g1, g2, g3, g4, g5⟩ := hh
    have e1 := h1.symm.trans g1
    cases x <;> cases x' <;> simp only [Sv.rs, Option.some.injEq, Prod.mk.injEq, Rs.v.injEq, Rs.c.injEq, reduceCtorEq, false_and] at e1
    all_goals
      obtain ⟨rfl, rfl⟩ := e1
      have e2 := h2.symm.trans g2
      cases y <;> cases y' <;> simp only [Sv.rs, Option.some.injEq, Prod.mk.injEq, Rs.v.injEq, Rs.c.injEq, reduceCtorEq, false_and] at e2
      all_goals
        obtain ⟨rfl, rfl⟩ := e2
        rw [h3] at g3
        cases g3
        exact g5
  · right
    refine ⟨F, as, G, C, r, C', wd, sr, trivial, ?_, po⟩
    have z := go false fun x C1 y C2 dx dy h1 h2 h3 h4 => by
      cases q : p dx with
      | false => rfl
      | true => exact absurd ⟨x, C1, y, C2, dx, dy, h1, h2, h3, h4, q⟩ hh
    have ee : (fun (dx dy : D) => if p dx = false then f dx dy else none) = fun dx dy => if p dx = true then none else f dx dy := by
      funext dx dy
      cases p dx <;> rfl
    have e3 := z
    show c2 (fun x y => if p x = true then none else f x y) ca cb G C = _
    rw [← ee]
    exact e3
theorem pe_nget {o i : Expr} {td ty : TE} (hu : X.A.units + 10 < cLine) (ho : PE X o td) (hi : PE X i ty) (hs : NoSl i) : PE X (.Subscript o i pos) (fun σ H Q => td σ H fun x H1 => ty σ H1 fun y H2 => ∃ (a b : Addr) (xs : NE) (k : NestedKey) (v : V), x = .ref a ∧ y = .ref b ∧ IsR X.w H2 a xs ∧
    (∀ pins s, Inv X pins σ H2 s → KOk X.prog X.w s.heap xs ∧ (nestedKind X.prog X.w).is s.heap k b) ∧ nAt xs k = some v ∧ Q v H2) := by
  refine ⟨fun pins s σ H Q I h => ?_⟩
  refine subD_of PySem.F.slot_dict_getitem.lookup hs (thn (ho.run pins s σ H _ I h) fun u s1 ⟨x, H1, I1, rx, q1⟩ => thn (hi.run pins s1 σ H1 _ I1 q1) fun iv s2 ⟨y, H2, I2, ry, a, b, xs, k, v, ex, ey, hn, hk, hv, q2⟩ => ?_)
  subst ex ey
  obtain rfl : u = Value.ref a := rx
  obtain rfl : iv = Value.ref b := ry
  obtain ⟨k1, k2⟩ := hk pins s2 I2
  obtain ⟨vs, r, d⟩ := nd_of I2 hn k1
  refine ⟨d.typeIs, nd_get hu I2 hn k1 k2 hv fun t u ru => ⟨v, H2, I2.tok t, ru, q2⟩⟩
theorem ev_sub (hK : X.K = E.K) (hw : X.w = E.w) (hu : X.A.units + 10 < cLine) (ha : PE X a (rE E B W ca)) (hb : PE X b (rE E B W cb)) (hs : ∀ o i, subscripted b false o i = operate [o, i] (getItem o i)) : PE X (.Subscript a b pos) (rE E B W (c2 fSub ca cb)) := by
  refine PE.weak (PE.or (PE.or (pe_dget (by omega) ha hb hs) (pe_nget hu ha hb hs)) (pe_ix (ix_seq hK) ha hb hs)) fun σ H Q h => (two_split isDic h).imp (fun h => (two_split (fun d => match d with | .dic ps => scK ps | _ => true) h).imp (fun h => ?_) fun h => ?_) fun h => ?_
  · refine rF_imp (rF_bv mo_tru h) fun v H1 ⟨x, h1⟩ => ?_
    refine rF_imp (rF_bv (mo_and mo_tru) h1) fun u H2 ⟨y, h2⟩ => ?_
    obtain ⟨F, as, G, C, z, wd, sr, ⟨⟨_, ax⟩, ay⟩, e, k⟩ := rF_out h2
    cases q1 : peek C x with
    | none => rw [q1] at e; cases e
    | some dx =>
      cases q2 : peek C y with
      | none => rw [q1, q2] at e; cases e
      | some dy =>
        rw [q1, q2] at e
        simp only [Option.bind_some] at e
        cases dx with
        | dic ps =>
          by_cases sc : scK ps = true
          · rw [if_pos sc] at e
            have e : ((ukey dy).bind fun k => (dval ps k).map Rd1.v) = some z := e
            cases q3 : ukey dy with
            | none => rw [q3] at e; cases e
            | some uk =>
              rw [q3] at e
              have e : (dval ps uk).map Rd1.v = some z := e
              cases q4 : dval ps uk with
              | none => rw [q4] at e; cases e
              | some d =>
                rw [q4] at e
                cases e
                obtain ⟨b, rfl, ⟨vs, hd, r⟩ | ⟨xs, _, n, r⟩⟩ := (peek_pk wd ax q1).dic wd.sub
                · cases uk with
                  | inl key =>
                    obtain ⟨w, e1, a1⟩ := (atk_val r).1 d q4
                    have eu : u = kV key := key_at ((peek_pk wd ay q2).at wd.sub) q3
                    exact ⟨b, w, rfl, .inl ⟨vs, key, hd, eu, e1.symm⟩, k F H2 w (Gr.refl wd.sub) a1⟩
                  | inr key =>
                    exfalso
                    unfold dval at q4
                    cases qf : ps.find? fun p => decide (ukey p.1 = some (.inr key)) with
                    | none => rw [qf] at q4; cases q4
                    | some p =>
                      have h1 := List.mem_of_find?_eq_some qf
                      have h2 := List.find?_some qf
                      have h3 := List.all_eq_true.mp sc p h1
                      have h2 : ukey p.1 = some (.inr key) := of_decide_eq_true h2
                      cases hp : p.1 with
                      | int i => rw [hp] at h2; cases h2
                      | str i => rw [hp] at h2; cases h2
                      | _ => simp only [hp, isSc] at h3; cases h3
                · rw [atn_sc r n] at sc; cases sc
          · rw [if_neg sc] at e; cases e
        | _ => simp only [isDic] at e; split at e <;> first | cases e | (split at e <;> cases e)
  · refine rF_imp (rF_bv mo_tru h) fun v H1 ⟨x, h1⟩ => ?_
    refine rF_imp (rF_bv (mo_and mo_tru) h1) fun u H2 ⟨y, h2⟩ => ?_
    obtain ⟨F, as, G, C, z, wd, sr, ⟨⟨_, ax⟩, ay⟩, e, k⟩ := rF_out h2
    cases q1 : peek C x with
    | none => rw [q1] at e; cases e
    | some dx =>
      cases q2 : peek C y with
      | none => rw [q1, q2] at e; cases e
      | some dy =>
        rw [q1, q2] at e
        simp only [Option.bind_some] at e
        cases dx with
        | dic ps =>
          by_cases sc : scK ps = true
          · rw [if_pos sc] at e; cases e
          · rw [if_neg sc] at e
            have e : ((ukey dy).bind fun k => (dval ps k).map Rd1.v) = some z := e
            cases q3 : ukey dy with
            | none => rw [q3] at e; cases e
            | some uk =>
              rw [q3] at e
              have e : (dval ps uk).map Rd1.v = some z := e
              cases q4 : dval ps uk with
              | none => rw [q4] at e; cases e
              | some d =>
                rw [q4] at e
                cases e
                obtain ⟨b, rfl, ⟨vs, hd, r⟩ | ⟨xs, hd, n, r⟩⟩ := (peek_pk wd ax q1).dic wd.sub
                · exact absurd (atk_sc r) sc
                · cases uk with
                  | inr key =>
                    obtain ⟨w, e1, a1⟩ := (atn_val r).1 d q4
                    have au := (peek_pk wd ay q2).at wd.sub
                    obtain ⟨b2, rfl, kq⟩ := at_tkey au q3
                    exact ⟨b, b2, xs, key, w, rfl, rfl, (by rw [hw]; exact IsR.rd hd), fun pins s I => ⟨atn_kok hK I wd.sub r, atn_keys hK I (Same.refl H2) au kq⟩, e1, k F H2 w (Gr.refl wd.sub) a1⟩
                  | inl key =>
                    exfalso
                    unfold dval at q4
                    cases qf : ps.find? fun p => decide (ukey p.1 = some (.inl key)) with
                    | none => rw [qf] at q4; cases q4
                    | some p =>
                      have h1 := List.mem_of_find?_eq_some qf
                      have h2 := List.find?_some qf
                      have h3 := List.all_eq_true.mp (atn_tu r) p h1
                      have h2 : ukey p.1 = some (.inl key) := of_decide_eq_true h2
                      cases hp : p.1 with
                      | tup i =>
                        rw [hp] at h2
                        simp only [ukey] at h2
                        cases hq : kn (.tup i) with
                        | none => rw [hq] at h2; cases h2
                        | some z => rw [hq] at h2; cases h2
                      | _ => simp only [hp, isTu] at h3; cases h3
        | _ => simp only [isDic] at e; split at e <;> first | cases e | (split at e <;> cases e)
  · refine rF_imp (rF_bv mo_tru h) fun v H1 ⟨x, h1⟩ => ?_
    refine rF_imp (rF_bv (mo_and mo_tru) h1) fun u H2 ⟨y, h2⟩ => ?_
    obtain ⟨F, as, G, C, z, wd, sr, ⟨⟨_, ax⟩, ay⟩, e, k⟩ := rF_out h2
    cases q1 : peek C x with
    | none => rw [q1] at e; cases e
    | some dx =>
      cases q2 : peek C y with
      | none => rw [q1, q2] at e; cases e
      | some dy =>
        rw [q1, q2] at e
        simp only [Option.bind_some] at e
        cases q3 : isDic dx with
        | true => rw [q3, if_pos rfl] at e; cases e
        | false =>
          rw [q3, if_neg (by decide)] at e
          exact ⟨F, dx, dy, z, wd.sub, peek_pk wd ax q1, peek_pk wd ay q2, e, q3, k⟩
/-! ### parts -/
def bo (c : Option CE) (G : Sl) (C : Cs) (k : Option Int → Cs → Ro) : Ro := match c with
  | none => k none C
  | some c => bv (c G C) fun y C1 => match y with
    | .v (.int i) => k (some i) C1
    | _ => none
def rO (E : Ev) (B : Bs) (W : WX) : Option CE → TO
  | none => fun σ H Q => Q none H
  | some c => fun σ H Q => rE E B W c σ H fun x H1 => ∃ i, x = .int i ∧ Q (some i) H1
theorem ov_none : PO X none (rO E B W none) := po_none
theorem ov_some {e : Expr} {c : CE} (h : PE X e (rE E B W c)) : PO X (some e) (rO E B W (some c)) := po_some h
def cutL {α : Type} (xs : List α) (lo hi : Option Int) : List α := (xs.drop (HT.sIx xs.length 0 lo)).take (HT.sIx xs.length xs.length hi - HT.sIx xs.length 0 lo)
def cSl (f : D → Option Int → Option Int → Option Rd1) (a : CE) (lo hi : Option CE) : CE := fun G C => bv (a G C) fun x C1 => bo lo G C1 fun l C2 => bo hi G C2 fun h C3 => out ((peek C3 x).bind fun d => f d l h) C3
theorem rF_bo {Φ : Ph} {c : Option CE} {k : Sl → Option Int → Cs → Ro} {σ : L2.St} {H : Hp} {Q : VK} (mo : Mo Φ) (h : rF E B W Φ (fun G C => bo c G C (k G)) σ H Q) : rO E B W c σ H fun o H1 => rF E B W Φ (fun G C => k G o C) σ H1 Q := by
  cases c with
  | none => exact h
  | some c =>
    have h : rF E B W Φ (fun G C => bv (c G C) ((fun (G : Sl) (y : Sv) (C1 : Cs) => match y with
      | .v (.int i) => k G (some i) C1
      | _ => none) G)) σ H Q := h
    refine rF_imp (rF_bv mo h) fun v H1 ⟨y, h1⟩ => ?_
    cases y with
    | c i => obtain ⟨F, as, G, C, r, C', wd, sr, ph, e, po⟩ := h1; cases e
    | v d =>
      cases d with
      | int i =>
        refine ⟨i, rF_at h1 fun F as p => at_int p.2, ?_⟩
        obtain ⟨F, as, G, C, r, C', wd, sr, ph, e, po⟩ := h1
        exact ⟨F, as, G, C, r, C', wd, sr, ph.1, e, po⟩
      | _ => obtain ⟨F, as, G, C, r, C', wd, sr, ph, e, po⟩ := h1; cases e
def fSl (d : D) (lo hi : Option Int) : Option Rd1 := match d with
  | .lst ds => some (.n (.lst (cutL ds lo hi)))
  | .tup ds => some (.v (.tup (cutL ds lo hi)))
  | .str z => if z.length ≤ 100000 then some (.v (.str (Txt.slice z lo hi))) else none
  | _ => none
theorem sl_D (hK : X.K = E.K) : SlR X (fun x lo hi H Q => ∃ F d z, Same F H ∧ Pk E F H x d ∧ fSl d lo hi = some z ∧ ∀ F' H' v, Gr E F H F' H' → R1At E F H F' H' v z → Q v H') := fun pins s σ H x v vl vu lo hi sl Q I rx hs pl pu ⟨F, d, z, sub, px, e, k⟩ => by
  have cl : ∀ {vs : List V} {ds : List D}, Ats E F vs ds → Ats E F (cutV vs lo hi) (cutL ds lo hi) := fun {vs ds} r => by
    unfold cutV cutL
    rw [r.len]
    exact (r.drop _).take _
  cases d with
  | lst ds =>
    cases e
    obtain ⟨a, vs, rfl, h, r⟩ := px.list sub
    exact sl_list pins s σ H _ v vl vu lo hi sl Q I rx hs pl pu ⟨a, vs, rfl, SqL.of h, finL sub k (cl r)⟩
  | tup ds =>
    cases e
    obtain ⟨a, vs, rfl, h, r, f⟩ := px.tupF
    refine sl_tupF pins s σ H _ v vl vu lo hi sl Q I rx hs pl pu ⟨a, vs, rfl, by rw [hK]; exact sub.tupS h, fun e => ?_, fun _ => finT sub k (cl r)⟩
    have z : cutL ds lo hi = ds := by
      unfold cutL
      rw [← r.len, e.1, e.2, List.drop_zero, Nat.sub_zero, r.len, List.take_length]
    rw [z] at k
    exact fin0 sub k (.tup h r f)
  | str t =>
    have e : (if t.length ≤ 100000 then some (Rd1.v (.str (Txt.slice t lo hi))) else none) = some z := e
    by_cases c : t.length ≤ 100000
    · rw [if_pos c] at e
      cases e
      exact C8.sl_txt pins s σ H _ v vl vu lo hi sl Q I rx hs pl pu ⟨t, px.str, line5 c, fin0 sub k (.str _)⟩
    · rw [if_neg c] at e; cases e
  | _ => cases e
theorem ev_sl {lo hi : Option Expr} {cl ch : Option CE} {p2 : Pos} (hK : X.K = E.K) (ha : PE X a (rE E B W ca)) (hl : PO X lo (rO E B W cl)) (hh : PO X hi (rO E B W ch)) : PE X (.Subscript a (.Slice lo hi none p2) pos) (rE E B W (cSl fSl ca cl ch)) :=
  PE.weak (pe_slice (sl_D hK) ha hl hh) fun σ H Q h => by
    refine rF_imp (rF_bv mo_tru h) fun v H1 ⟨x, h1⟩ => ?_
    have o1 := rF_bo (c := cl) (k := fun G l C2 => bo ch G C2 fun h C3 => out ((peek C3 x).bind fun d => fSl d l h) C3) (mo_and mo_tru) h1
    have imp : ∀ (c : Option CE) (H : Hp) (Q Q' : Option Int → Hp → Prop), (∀ o H, Q o H → Q' o H) → rO E B W c σ H Q → rO E B W c σ H Q' := fun c H Q Q' k h => by
      cases c with
      | none => exact k _ _ h
      | some c => exact rF_imp h fun v H1 ⟨i, e, q⟩ => ⟨i, e, k _ _ q⟩
    refine imp cl H1 _ _ (fun l H2 h2 => ?_) o1
    have o2 := rF_bo (c := ch) (k := fun G h C3 => out ((peek C3 x).bind fun d => fSl d l h) C3) (mo_and mo_tru) h2
    refine imp ch H2 _ _ (fun u H3 h3 => ?_) o2
    obtain ⟨F, as, G, C, z, wd, sr, ⟨_, ax⟩, e, k⟩ := rF_out h3
    cases q1 : peek C x with
    | none => rw [q1] at e; cases e
    | some dx =>
      rw [q1] at e
      exact ⟨F, dx, z, wd.sub, peek_pk wd ax q1, e, k⟩
end
end TL
set_option Elab.async false
set_option linter.all false
set_option maxRecDepth 100000
set_option maxHeartbeats 1000000
/-! Uj: built-ins of trees; dict displays; cells that change. -/
namespace TL
open PySem PySem.Spec PyProof.Rows L2 Gd
def bls : List D → Option (List Bool)
  | [] => some []
  | .bl b :: r => (bls r).map (b :: ·)
  | _ => none
theorem bls_at {E : Ev} {F : Hp} : ∀ {vs : List V} {ds : List D} {bs : List Bool}, Ats E F vs ds → bls ds = some bs → vs = bs.map V.bl
  | _, _, _, .nil, e => by cases e; rfl
  | _, _, _, .cons (d := d) (ds := ds) h r, e => by
    cases d with
    | bl b =>
      have e : (bls ds).map (b :: ·) = some _ := e
      cases q : bls ds with
      | none => rw [q] at e; cases e
      | some bs => rw [q] at e; cases e; rw [at_bl h, bls_at r q]; rfl
    | _ => cases e
def fAll (ds : List D) : Option Rd1 := match ds with
  | [.lst xs] => (bls xs).map fun bs => .v (.bl (bs.all id))
  | _ => none
def fAny (ds : List D) : Option Rd1 := match ds with
  | [.lst xs] => (bls xs).map fun bs => .v (.bl (bs.any id))
  | _ => none
def fTup (ds : List D) : Option Rd1 := match ds with
  | [.lst xs] => some (.v (.tup xs))
  | [.tup xs] => some (.v (.tup xs))
  | _ => none
def fLst (ds : List D) : Option Rd1 := match ds with
  | [.lst xs] => some (.n (.lst xs))
  | [.tup xs] => some (.n (.lst xs))
  | [.str x] => if x.cps.size ≤ 1000 then some (.n (.lst (sgnD x))) else none
  | _ => none
def fAbs (ds : List D) : Option Rd1 := match ds with
  | [.int i] => some (.v (.int (if i < 0 then -i else i)))
  | _ => none
def fMax (ds : List D) : Option Rd1 := match ds with
  | [.int i, .int j] => some (.v (.int (if j > i then j else i)))
  | _ => none
def fMin (ds : List D) : Option Rd1 := match ds with
  | [.int i, .int j] => some (.v (.int (if j < i then j else i)))
  | _ => none
def fInt (ds : List D) : Option Rd1 := match ds with
  | [.int i] => some (.v (.int i))
  | [.bl k] => some (.v (.int (if k then 1 else 0)))
  | _ => none
def fStr (ds : List D) : Option Rd1 := match ds with
  | [.int i] => if i.natAbs.log2 < 1920 then some (.v (.str (toString i))) else none
  | [.str x] => some (.v (.str x))
  | _ => none
section
variable {X : Cx} {E : Ev} {B : Bs} {W : WX}
theorem cd_all (hK : X.K = E.K) (hc : X.calm = true) : CallD X E (.builtin "all") fAll := fun pins s σ H xs us Q I r ⟨F, ds, z, sub, px, e, k⟩ => by
  unfold fAll at e
  split at e
  · rename_i ys
    cases q : bls ys with
    | none => rw [q] at e; cases e
    | some bs =>
      rw [q] at e
      cases e
      obtain ⟨v, rfl, pv⟩ := pks1 px
      obtain ⟨a, vs, rfl, h, r1⟩ := pv.list sub
      exact cr_all hc pins s σ H _ us Q I r ⟨a, bs, rfl, by rw [← bls_at r1 q]; exact SqL.of h, fin0 sub k (.bl _)⟩
  · cases e
theorem cd_any (hK : X.K = E.K) (hc : X.calm = true) : CallD X E (.builtin "any") fAny := fun pins s σ H xs us Q I r ⟨F, ds, z, sub, px, e, k⟩ => by
  unfold fAny at e
  split at e
  · rename_i ys
    cases q : bls ys with
    | none => rw [q] at e; cases e
    | some bs =>
      rw [q] at e
      cases e
      obtain ⟨v, rfl, pv⟩ := pks1 px
      obtain ⟨a, vs, rfl, h, r1⟩ := pv.list sub
      exact cr_any hc pins s σ H _ us Q I r ⟨a, bs, rfl, by rw [← bls_at r1 q]; exact SqL.of h, fin0 sub k (.bl _)⟩
  · cases e
theorem cd_tup (hK : X.K = E.K) : CallD X E (.type "tuple") fTup := fun pins s σ H xs us Q I r ⟨F, ds, z, sub, px, e, k⟩ => by
  unfold fTup at e
  split at e
  · cases e
    obtain ⟨v, rfl, pv⟩ := pks1 px
    obtain ⟨a, vs, rfl, h, r1⟩ := pv.list sub
    exact call_tupF pins s σ H _ us Q I r ⟨a, vs, rfl, .inl ⟨SqL.of h, finT sub k r1⟩⟩
  · cases e
    obtain ⟨v, rfl, pv⟩ := pks1 px
    obtain ⟨a, vs, rfl, h, r1, f1⟩ := pv.tupF
    exact call_tupF pins s σ H _ us Q I r ⟨a, vs, rfl, .inr ⟨by rw [hK]; exact sub.tupS h, fin0 sub k (.tup h r1 f1)⟩⟩
  · cases e
theorem sgn_at {F : Hp} (x : Str) : Ats E F (sgnV x) (sgnD x) := by
  unfold sgnV sgnD
  generalize x.cps.toList = l
  induction l with
  | nil => exact .nil
  | cons c l ih => exact .cons (.str _) ih
theorem cd_lst (hK : X.K = E.K) (hc : X.calm = true) : CallD X E (.type "list") fLst := fun pins s σ H xs us Q I r ⟨F, ds, z, sub, px, e, k⟩ => by
  unfold fLst at e
  split at e
  · cases e
    obtain ⟨v, rfl, pv⟩ := pks1 px
    obtain ⟨a, vs, rfl, h, r1⟩ := pv.list sub
    exact call_list_of pins s σ H _ us Q I r ⟨a, vs, rfl, .inl (SqL.of h), finL sub k r1⟩
  · cases e
    obtain ⟨v, rfl, pv⟩ := pks1 px
    obtain ⟨a, vs, rfl, h, r1⟩ := pv.tup
    exact call_list_of pins s σ H _ us Q I r ⟨a, vs, rfl, .inr (by rw [hK]; exact sub.tupS h), finL sub k r1⟩
  · rename_i x
    by_cases c : x.cps.size ≤ 1000
    · rw [if_pos c] at e
      cases e
      obtain ⟨v, rfl, pv⟩ := pks1 px
      cases pv.str
      exact call_listStr hc pins s σ H _ us Q I r ⟨x, rfl, c, finL sub k (sgn_at x)⟩
    · rw [if_neg c] at e; cases e
  · cases e
theorem cd_abs : CallD X E (.builtin "abs") fAbs := fun pins s σ H xs us Q I r ⟨F, ds, z, sub, px, e, k⟩ => by
  unfold fAbs at e
  split at e
  · cases e
    obtain ⟨v, rfl, pv⟩ := pks1 px
    exact call_abs pins s σ H _ us Q I r ⟨_, by rw [pv.int], fin0 sub k (.int _)⟩
  · cases e
theorem cd_max (hc : X.calm = true) : CallD X E (.builtin "max") fMax := fun pins s σ H xs us Q I r ⟨F, ds, z, sub, px, e, k⟩ => by
  unfold fMax at e
  split at e
  · cases e
    obtain ⟨v, u, rfl, pv, pu⟩ := pks2 px
    exact call_max2 hc pins s σ H _ us Q I r ⟨_, _, by rw [pv.int, pu.int], fin0 sub k (.int _)⟩
  · cases e
theorem cd_min (hc : X.calm = true) : CallD X E (.builtin "min") fMin := fun pins s σ H xs us Q I r ⟨F, ds, z, sub, px, e, k⟩ => by
  unfold fMin at e
  split at e
  · cases e
    obtain ⟨v, u, rfl, pv, pu⟩ := pks2 px
    exact call_min2 hc pins s σ H _ us Q I r ⟨_, _, by rw [pv.int, pu.int], fin0 sub k (.int _)⟩
  · cases e
theorem cd_int : CallD X E (.type "int") fInt := fun pins s σ H xs us Q I r ⟨F, ds, z, sub, px, e, k⟩ => by
  unfold fInt at e
  split at e
  · cases e
    obtain ⟨v, rfl, pv⟩ := pks1 px
    exact call_int1 pins s σ H _ us Q I r (.inl ⟨_, by rw [pv.int], fin0 sub k (.int _)⟩)
  · cases e
    obtain ⟨v, rfl, pv⟩ := pks1 px
    exact call_int1 pins s σ H _ us Q I r (.inr ⟨_, by rw [pv.bl], fin0 sub k (.int _)⟩)
  · cases e
theorem cd_str : CallD X E (.type "str") fStr := fun pins s σ H xs us Q I r ⟨F, ds, z, sub, px, e, k⟩ => by
  unfold fStr at e
  split at e
  · rename_i i
    by_cases c : i.natAbs.log2 < 1920
    · rw [if_pos c] at e
      cases e
      obtain ⟨v, rfl, pv⟩ := pks1 px
      exact call_str_int pins s σ H _ us Q I r ⟨_, by rw [pv.int], c, fin0 sub k (.str _)⟩
    · rw [if_neg c] at e; cases e
  · cases e
    obtain ⟨v, rfl, pv⟩ := pks1 px
    exact SkE.call_str_str pins s σ H _ us Q I r ⟨_, by rw [pv.str], fin0 sub k (.str _)⟩
  · cases e
/-! ### dict displays -/
def cDic0 : CE := fun _ C => some (.n (.dic []), C)
theorem ev_dic0 {pos : Pos} : PE X (.Dict [] [] pos) (rE E B W cDic0) := PE.weak pe_dnewK fun σ H Q ⟨F, as, G, C, r, C', wd, sr, _, e, po⟩ => by
  cases e
  intro p hp
  have g := Gr.newH (E := E) (o := .dK []) wd.sub hp
  exact po.back (fun _ z => by cases z) (Sm.refl F) (wd.gr g) ⟨p, _, rfl, upd_same, fresh_F wd.sub hp, fun z => (wd.there p z).ne hp, wd.nobase hp, .inl ⟨[], rfl, .nil⟩⟩
/-! ### a cell changes by a method -/
def cMc (g : Cell → List D → Option (Cell × D)) (co : CE) (ca : CA) : CE := fun G C => bv (co G C) fun x C1 => match x with
  | .v _ => none
  | .c k => if (C1[k]?.bind id).isSome = true then ba (ca G C1) fun ys C2 => (C2[k]?.bind id).bind fun c => (vals ys).bind fun ds => (g c ds).map fun p => (.v p.2, C2.set k (some p.1)) else none
end
end TL
set_option Elab.async false
set_option linter.all false
set_option maxRecDepth 100000
set_option maxHeartbeats 1000000
/-! Uk: lists under way: append, extend, pop; x[i] = v; defs that draw. -/
namespace TL
open PySem PySem.Spec PyProof.Rows L2 Gd
def isL : Option (Option Cell) → Bool
  | some (some (.lst _)) => true
  | _ => false
/-- a method of the list in a cell -/
def cMl (g : List D → List D → Option (List D × D)) (co : CE) (ca : CA) : CE := fun G C => bv (co G C) fun x C1 => match x with
  | .v _ => none
  | .c k => if isL C1[k]? = true then ba (ca G C1) fun ys C2 => match C2[k]? with
    | some (some (.lst xs)) => (vals ys).bind fun ds => (g xs ds).map fun p => (.v p.2, C2.set k (some (.lst p.1)))
    | _ => none else none
def MlOk (E : Ev) (r : V → List V → Hp → VK → Prop) (g : List D → List D → Option (List D × D)) : Prop :=
  ∀ (F H : Hp) (a : Addr) (us vs : List V) (xs ds xs' : List D) (d : D) (Q : VK), Same F H → F a = none → H a = some (.lst us) → Ats E F us xs → Ats E F vs ds → g xs ds = some (xs', d) →
    (∀ us' v, Ats E F us' xs' → At E F v d → Q v (upd H a (.lst us'))) → r (.ref a) vs H Q
section
variable {X : Cx} {E : Ev} {B : Bs} {W : WX} {pos : Pos} {e : Expr} {es : List Expr} {co ce ci : CE} {ca : CA} {σ : L2.St} {H : Hp} {Q : VK}
theorem rE_ml {r : V → List V → Hp → VK → Prop} {g : List D → List D → Option (List D × D)} (ok : MlOk E r g) (h : rE E B W (cMl g co ca) σ H Q) : tBM X.K "list" r (rE E B W co) (rA E B W tru ca) σ H Q := by
  have h : rE E B W (fun G C => bv (co G C) ((fun (G : Sl) (x : Sv) (C1 : Cs) => match x with
    | .v _ => none
    | .c k => if isL C1[k]? = true then ba (ca G C1) fun ys C2 => match C2[k]? with
      | some (some (.lst xs)) => (vals ys).bind fun ds => (g xs ds).map fun p => (.v p.2, C2.set k (some (.lst p.1)))
      | _ => none else none) G)) σ H Q := h
  refine rF_imp (rF_bv mo_tru h) fun v H1 ⟨x, h1⟩ => ?_
  cases x with
  | v d => obtain ⟨F, as, G, C, r, C', wd, sr, ph, e, po⟩ := h1; cases e
  | c k =>
    obtain ⟨F, as, G, C1, rr, C', wd, sr, ⟨_, a, ha, rfl⟩, e, po⟩ := h1
    simp only at e
    by_cases hl : isL C1[k]? = true
    · rw [if_pos hl] at e
      refine ⟨?_, ?_⟩
      · cases q : C1[k]? with
        | none => rw [q] at hl; cases hl
        | some oc =>
          cases oc with
          | none => rw [q] at hl; cases hl
          | some c =>
            cases c with
            | dic ps => rw [q] at hl; cases hl
            | ins _ _ => rw [q] at hl; cases hl
            | lst xs =>
              obtain ⟨_, o, h1, us, rfl, _⟩ := wd.at_ k a _ ha q
              exact .inl ⟨rfl, us, SqL.of h1⟩
      · have h2 : rF E B W (fun F as => as[k]? = some a) (fun G C => ba (ca G C) ((fun (G : Sl) ys C2 => match C2[k]? with
          | some (some (.lst xs)) => (vals ys).bind fun ds => (g xs ds).map fun p => (.v p.2, C2.set k (some (.lst p.1)))
          | _ => none) G)) σ H1 Q := ⟨F, as, G, C1, rr, C', wd, sr, ha, e, po⟩
        refine rA_imp (rF_ba (fun F F' as s h => h) h2) fun vs H2 ⟨ys, h3⟩ => ?_
        obtain ⟨F2, as2, G2, C2, r2, C3, wd2, sr2, ⟨ha2, ay⟩, e2, po2⟩ := h3
        simp only at e2
        cases q : C2[k]? with
        | none => simp only [q] at e2; cases e2
        | some oc =>
          cases oc with
          | none => simp only [q] at e2; cases e2
          | some c =>
            cases c with
            | dic ps => simp only [q] at e2; cases e2
            | ins _ _ => simp only [q] at e2; cases e2
            | lst xs =>
              simp only [q] at e2
              cases q3 : vals ys with
              | none => rw [q3] at e2; cases e2
              | some ds =>
                rw [q3] at e2
                simp only [Option.bind_some] at e2
                cases q4 : g xs ds with
                | none => rw [q4] at e2; cases e2
                | some p =>
                  obtain ⟨xs', d⟩ := p
                  rw [q4] at e2
                  cases e2
                  obtain ⟨fa, o, h4, us, rfl, au⟩ := wd2.at_ k a _ ha2 q
                  refine ok F2 H2 a us vs xs ds xs' d Q wd2.sub fa h4 au (vals_at ay q3) q4 fun us' v a1 a2 => ?_
                  exact po2.back (fun _ z => by cases z) (Sm.refl _) (wd2.put ha2 q ⟨us', rfl, a1⟩) a2
    · rw [if_neg hl] at e; cases e
def gApp (xs ds : List D) : Option (List D × D) := match ds with
  | [d] => if xs.length < 100000 then some (xs ++ [d], .non) else none
  | _ => none
def gExt (xs ds : List D) : Option (List D × D) := match ds with
  | [.lst ys] => if xs.length + ys.length ≤ 100000 then some (xs ++ ys, .non) else none
  | _ => none
def gPopAt (xs ds : List D) : Option (List D × D) := match ds with
  | [.int i] => if -(2 ^ 63) ≤ i ∧ i < 2 ^ 63 then (seqIndex? i xs.length).bind fun k => (xs[k]?).map fun y => (xs.eraseIdx k, y) else none
  | _ => none
def gPop (xs ds : List D) : Option (List D × D) := match ds with
  | [] => (xs[xs.length - 1]?).map fun y => (xs.dropLast, y)
  | _ => none
theorem Ats.erase {F : Hp} : ∀ {vs : List V} {ds : List D} (k : Nat), Ats E F vs ds → Ats E F (vs.eraseIdx k) (ds.eraseIdx k)
  | _, _, _, .nil => .nil
  | _, _, 0, .cons _ r => r
  | _, _, k + 1, .cons h r => .cons h (Ats.erase k r)
theorem ml_app : MlOk E rAppend gApp := fun F H a us vs xs ds xs' d Q s fa h au av e k => by
  unfold gApp at e
  split at e
  · rename_i d1
    by_cases c : xs.length < 100000
    · rw [if_pos c] at e
      cases e
      cases av with
      | cons h1 r1 =>
        cases r1
        exact ⟨a, us, _, rfl, rfl, h, by rw [au.len]; exact Nat.lt_of_lt_of_le c (by decide), k _ _ (au.app (.cons h1 .nil)) .non⟩
    · rw [if_neg c] at e; cases e
  · cases e
theorem ml_ext : MlOk E rExtend gExt := fun F H a us vs xs ds xs' d Q s fa h au av e k => by
  unfold gExt at e
  split at e
  · rename_i ys
    by_cases c : xs.length + ys.length ≤ 100000
    · rw [if_pos c] at e
      cases e
      cases av with
      | cons h1 r1 =>
        cases r1
        cases h1 with
        | lst h2 r2 => exact ⟨a, _, us, _, rfl, rfl, h, s _ _ h2, by rw [au.len, r2.len]; exact line5 c, k _ _ (au.app r2) .non⟩
    · rw [if_neg c] at e; cases e
  · cases e
theorem ml_popAt : MlOk E rPopAt gPopAt := fun F H a us vs xs ds xs' d Q s fa h au av e k => by
  unfold gPopAt at e
  split at e
  · rename_i i
    by_cases c : -(2 ^ 63) ≤ i ∧ i < 2 ^ 63
    · rw [if_pos c] at e
      cases q : seqIndex? i xs.length with
      | none => rw [q] at e; cases e
      | some j =>
        rw [q] at e
        simp only [Option.bind_some] at e
        cases q2 : xs[j]? with
        | none => rw [q2] at e; cases e
        | some y =>
          rw [q2] at e
          cases e
          cases av with
          | cons h1 r1 =>
            cases r1
            cases at_int h1
            obtain ⟨v, e1, a1⟩ := au.get q2
            exact ⟨a, us, i, j, v, rfl, rfl, h, c.1, c.2, by rw [au.len]; exact q, e1, k _ _ (au.erase j) a1⟩
    · rw [if_neg c] at e; cases e
  · cases e
theorem Ats.dropLast {F : Hp} {vs : List V} {ds : List D} (h : Ats E F vs ds) : Ats E F vs.dropLast ds.dropLast := by
  rw [List.dropLast_eq_take, List.dropLast_eq_take, h.len]
  exact h.take _
theorem ml_pop : MlOk E rPop gPop := fun F H a us vs xs ds xs' d Q s fa h au av e k => by
  unfold gPop at e
  split at e
  · cases q2 : xs[xs.length - 1]? with
    | none => rw [q2] at e; cases e
    | some y =>
      rw [q2] at e
      cases e
      cases av
      obtain ⟨v, e1, a1⟩ := au.get q2
      exact ⟨a, us, v, rfl, rfl, h, by rw [au.len]; exact e1, k _ _ au.dropLast a1⟩
  · cases e
theorem ev_ml {g : List D → List D → Option (List D × D)} {r : V → List V → Hp → VK → Prop} {name : Str} {id : String} {o : Expr} {apos cpos : Pos} (slot : Slot "list" name id) (hty : typeOf (.builtin id) = pure (.type "method_descriptor")) (hm : MtR X id r) (ok : MlOk E r g) (ho : PE X o (rE E B W co)) (ha : PA X (e :: es) (rA E B W tru ca))
    (hbase : attributeBase o name X.env (eval o X.env) = eval o X.env := by rfl)
    (hfew : ((backTo cpos (starEach (e :: es) X.env)).all (fun x => !x.1) && (backToKw cpos (keywordEach [] X.env)).all (fun x => x.1.isSome)
      && decide ((e :: es).length + ([] : List Keyword).length + (if ([] : List Keyword).isEmpty then 0 else 1) < 30)) = true := by rfl) (hs : starEach (e :: es) X.env = (false, eval e X.env) :: starEach es X.env := by rfl) (hplain : (backTo cpos (starEach es X.env)).any (·.1) = false := by rfl) (hline : (apos.endLine == cpos.line) = true := by rfl) : PE X (.Call (.Attribute o name apos) (e :: es) [] cpos) (rE E B W (cMl g co ca)) :=
  PE.weak (pe_bm PySem.F.plainAttrs_list slot hty hm ho ha (hbase := hbase) (hfew := hfew) (hs := hs) (hplain := hplain) (hline := hline)) fun _ _ _ h => rE_ml ok h
/-! ### x[i] = v -/
def putC (c : Cell) (i v : D) : Option Cell := match c with
  | .lst xs => match i with
    | .int k => (ixN xs.length k).map fun j => .lst (xs.set j v)
    | _ => none
  | .dic ps => if ps.length < 100000 then (ukey i).bind fun k => match k with
    | .inl _ => if scK ps = true then some (.dic (dput ps k i v)) else none
    | .inr _ => if tuK ps = true then some (.dic (dput ps k i v)) else none else none
  | .ins _ _ => none
def put3 (v o i : Sv) (G : Sl) (C3 : Cs) : So := match v, o, i with
  | .v d, .c k, .v di => (C3[k]?.bind id).bind fun c => (putC c di d).map fun c' => (.nx, G, C3.set k (some c'))
  | _, _, _ => none
def sPut (ce co ci : CE) : CS := fun G C => sv (ce G C) G fun v C1 => sv (co G C1) G fun o C2 => sv (ci G C2) G fun i C3 => put3 v o i G C3
/-- the store of an item, by what stands there -/
def rPut (w : World) (Pk : (pins : List (Addr × Obj)) → Shared → L2.St → Hp → Prop) : V → V → V → Hp → (Hp → Prop) → Prop := fun o i v H Q => rSetL o i v H Q ∨ (∃ a H', o = .ref a ∧ DPut H a i v H' ∧ Q H') ∨
  ∃ (a b : Addr) (xs : NE) (k : NestedKey), o = .ref a ∧ i = .ref b ∧ IsN w H a xs ∧ xs.length < sizeLine ∧ (∀ pins s σ, Pk pins s σ H → True) ∧ Q (upd H a (NDicO w a (nPut xs k b v)))
theorem set_all (hu : X.A.units + 10 < cLine) : PSet X (fun o i v H Q => rSetL o i v H Q ∨ (∃ a H', o = .ref a ∧ DPut H a i v H' ∧ Q H') ∨
    ∃ (a b : Addr) (xs : NE) (k : NestedKey), o = .ref a ∧ i = .ref b ∧ IsN X.w H a xs ∧ xs.length < sizeLine ∧ (∀ pins s σ, Inv X pins σ H s → KOk X.prog X.w s.heap xs ∧ (nestedKind X.prog X.w).is s.heap k b) ∧ Q (upd H a (NDicO X.w a (nPut xs k b v)))) := by
  intro pins s σ H o i v ov iv u Q I ro ri rv h
  rcases h with h | ⟨a, H', rfl, g, q⟩ | ⟨a, b, xs, k, rfl, rfl, hn, hz, hk, q⟩
  · exact set_list pins s σ H o i v ov iv u Q I ro ri rv h
  · obtain rfl : ov = Value.ref a := ro
    exact d_setItem (by omega) I g ri rv fun s4 I4 => ⟨H', I4, q⟩
  · obtain rfl : ov = Value.ref a := ro
    obtain rfl : iv = Value.ref b := ri
    obtain ⟨k1, k2⟩ := hk pins s σ I
    exact nd_put hu I hn k1 k2 rv hz fun s4 I4 => ⟨_, I4, q⟩
theorem rS_sv2 {Φ : Ph} {k : Sl → Sv → Cs → So} {c : CE} {D : Ends} (mo : Mo Φ) (h : ∃ F as G C o G' C', Wd E B H F as C ∧ Sr E F as σ G ∧ Φ F as ∧ sv (c G C) G (k G) = some (o, G', C') ∧ PoS E B W F as D G' C' o) :
    rE E B W c σ H fun v H1 => ∃ x : Sv, ∃ F as G C o G' C', Wd E B H1 F as C ∧ Sr E F as σ G ∧ (Φ F as ∧ SvAt E F as v x) ∧ k G x C = some (o, G', C') ∧ PoS E B W F as D G' C' o := by
  obtain ⟨F, as, G, C, o, G', C', wd, sr, ph, e, po⟩ := h
  cases q : c G C with
  | none => rw [q] at e; cases e
  | some p =>
    obtain ⟨x, C1⟩ := p
    rw [q] at e
    refine ⟨F, as, G, C, x, C1, wd, sr, trivial, q, fun F' H' s w => ?_⟩
    cases x with
    | ex er => cases e; exact fun cls dx a => po F' H' as σ s (List.prefix_refl _) w (sr.mv s (List.prefix_refl _)) cls dx a
    | v d => exact fun v a => ⟨.v d, F', as, G, C1, o, G', C', w, sr.mv s (List.prefix_refl _), ⟨mo _ _ _ s ph, a⟩, e, po.imp s (List.prefix_refl _)⟩
    | c i => exact fun v a => ⟨.c i, F', as, G, C1, o, G', C', w, sr.mv s (List.prefix_refl _), ⟨mo _ _ _ s ph, a⟩, e, po.imp s (List.prefix_refl _)⟩
    | n o => cases e
theorem sv_put {o i value : Expr} {pos' : Pos} (hK : X.K = E.K) (hw : X.w = E.w) (hu : X.A.units + 10 < cLine) (ho : PE X o (rE E B W co)) (hi : PE X i (rE E B W ci)) (hv : PE X value (rE E B W ce))
    (ha : ∀ v, assign (.Subscript o i pos') X.env v = (do
      let ov ← holding [v] (eval o X.env)
      let iv ← holding [v, ov] (eval i X.env)
      standAt pos'
      holding [v, ov, iv] (setItem ov iv v)
      release [v, ov, iv] []) := by intro _; rfl) (hs : swapsWithSole [.Subscript o i pos'] value pos.line X.env = pure false := by rfl) (hsw : swappedStores [.Subscript o i pos'] value X.env = pure none := by rfl)
    (h1 : (assignEach [.Subscript o i pos'] X.env).map (·.2) = [assign (.Subscript o i pos') X.env] := by rfl) : PS X (.Assign [.Subscript o i pos'] value pos) (rS E B W (sPut ce co ci)) :=
  PS.weak (ps_asg hv (pg_sub ho hi (set_all hu) ha) hs hsw h1) fun D σ H ⟨F, as, G, C, oo, G', C', wd, sr, e, po⟩ => by
    refine rF_imp (rS_sv2 (Φ := tru) (c := ce) (k := fun G v C1 => sv (co G C1) G fun o C2 => sv (ci G C2) G fun i C3 => put3 v o i G C3) mo_tru ⟨F, as, G, C, oo, G', C', wd, sr, trivial, e, po⟩) fun x1 H1 ⟨v, h1⟩ => ?_
    refine rF_imp (rS_sv2 (c := co) (k := fun G o C2 => sv (ci G C2) G fun i C3 => put3 v o i G C3) (mo_and mo_tru) h1) fun x2 H2 ⟨o, h2⟩ => ?_
    refine rF_imp (rS_sv2 (c := ci) (k := fun G i C3 => put3 v o i G C3) (mo_and (mo_and mo_tru)) h2) fun x3 H3 ⟨i, h3⟩ => ?_
    obtain ⟨F, as, G, C, oo, G', C', wd, sr, ⟨⟨⟨_, av⟩, ao⟩, ai⟩, e, po⟩ := h3
    cases v with
    | c k => cases o <;> cases i <;> cases e
    | v d =>
      cases o with
      | v _ => cases e
      | c k =>
        cases i with
        | c _ => cases e
        | v di =>
          have e : ((C[k]?.bind id).bind fun c => (putC c di d).map fun c' => (Out.nx, G, C.set k (some c'))) = some (oo, G', C') := e
          cases q : C[k]? with
          | none => rw [q] at e; cases e
          | some oc =>
            cases oc with
            | none => rw [q] at e; cases e
            | some c =>
              rw [q] at e
              have e : (putC c di d).map (fun c' => (Out.nx, G, C.set k (some c'))) = some (oo, G', C') := e
              cases q2 : putC c di d with
              | none => rw [q2] at e; cases e
              | some c' =>
                rw [q2] at e
                cases e
                obtain ⟨a, ha, rfl⟩ := ao
                obtain ⟨fa, ho, h4, h5⟩ := wd.at_ k a _ ha q
                have fin : ∀ o', HoAt E F a o' c' → D.nx σ (upd H3 a o') := fun o' h6 => po F _ as σ (Sm.refl F) (List.prefix_refl _) (wd.put ha q h6) sr
                cases c with
                | lst xs =>
                  obtain ⟨us, rfl, au⟩ := h5
                  cases di with
                  | int j =>
                    have q2 : (ixN xs.length j).map (fun j => Cell.lst (xs.set j d)) = some c' := q2
                    cases q3 : ixN xs.length j with
                    | none => rw [q3] at q2; cases q2
                    | some jj =>
                      rw [q3] at q2
                      cases q2
                      exact .inl ⟨a, us, j, jj, rfl, at_int ai, h4, by rw [au.len]; exact q3, fin _ ⟨_, rfl, au.set jj av⟩⟩
                  | _ => cases q2
                | ins _ _ => cases q2
                | dic ps =>
                  unfold putC at q2
                  by_cases few : ps.length < 100000
                  · simp only [if_pos few] at q2
                    cases q3 : ukey di with
                    | none => rw [q3] at q2; cases q2
                    | some uk =>
                      rw [q3] at q2
                      simp only [Option.bind_some] at q2
                      cases uk with
                      | inl key =>
                        simp only at q2
                        by_cases sc : scK ps = true
                        · rw [if_pos sc] at q2
                          cases q2
                          rcases h5 with ⟨us, rfl, au⟩ | ⟨xs, rfl, n, au⟩
                          · have ek := key_at ai q3
                            exact .inr (.inl ⟨a, _, rfl, .inl ⟨us, key, h4, ek, by rw [atk_len au]; exact Nat.lt_of_lt_of_le few (by decide), rfl⟩, fin _ (.inl ⟨_, rfl, atk_put (by rw [← ek]; exact ai) av au⟩)⟩)
                          · rw [atn_sc au n] at sc; cases sc
                        · rw [if_neg sc] at q2; cases q2
                      | inr key =>
                        simp only at q2
                        by_cases tu : tuK ps = true
                        · rw [if_pos tu] at q2
                          cases q2
                          obtain ⟨b, rfl, kq⟩ := at_tkey ai q3
                          have main : ∀ (xs : NE), IsN X.w H3 a xs → Atn E F xs ps → xs.length = ps.length → rSetL (.ref a) (.ref b) x1 H3 (fun H6 => D.nx σ H6) ∨ (∃ a' H', V.ref a = .ref a' ∧ DPut H3 a' (.ref b) x1 H' ∧ D.nx σ H') ∨
                              ∃ (a' b' : Addr) (xs : NE) (k : NestedKey), V.ref a = .ref a' ∧ V.ref b = .ref b' ∧ IsN X.w H3 a' xs ∧ xs.length < sizeLine ∧ (∀ pins s σ, Inv X pins σ H3 s → KOk X.prog X.w s.heap xs ∧ (nestedKind X.prog X.w).is s.heap k b') ∧ D.nx σ (upd H3 a' (NDicO X.w a' (nPut xs k b' x1))) := fun xs hn au hl => by
                            refine .inr (.inr ⟨a, b, xs, key, rfl, rfl, hn, by rw [hl]; exact Nat.lt_of_lt_of_le few (by decide), fun pins s σ I => ⟨atn_kok hK I wd.sub au, atn_keys hK I wd.sub ai kq⟩, fin _ (.inr ⟨_, by rw [hw], ?_, atn_put ai kq av au⟩)⟩)
                            unfold nPut
                            split
                            · intro z
                              rename_i c
                              have z2 : xs = [] := by simpa using z
                              subst z2
                              cases c
                            · simp
                          rcases h5 with ⟨us, rfl, au⟩ | ⟨xs, rfl, n, au⟩
                          · have pn : ps = [] := by
                              by_cases pn : ps = []
                              · exact pn
                              · rw [atk_tu au pn] at tu; cases tu
                            subst pn
                            cases au
                            exact main [] (.inr ⟨rfl, h4⟩) .nil rfl
                          · exact main xs (.inl (by rw [hw]; exact h4)) au (atn_len au)
                        · rw [if_neg tu] at q2; cases q2
                  · simp only [if_neg few] at q2
                    cases q2
end
end TL
set_option Elab.async false
set_option linter.all false
set_option maxRecDepth 100000
set_option maxHeartbeats 1000000
/-! Ul: defs that get a list of the caller's first and change it (the store of chance). -/
namespace TL
open PySem PySem.Spec PyProof.Rows L2 Gd
structure GrB (E : Ev) (k : Addr) (F H F' H' : Hp) : Prop where
  sub : Same F' H'
  f : Sm F F'
  h : ∀ a o, a ≠ k → H a = some o → F a = none → NT o → H' a = some o
  n : ∀ a o, F' a = some o → F a = none → er H a = none
  th : ∀ a, Th H a → Th H' a
  tab : LamX.Tabs E.T H'
  nt : ∀ a o, F' a = some o → NT o
/-- a def's promise: it gets a list first, leaves it changed -/
def spC (E : Ev) (n : Nat) (m : List D → List D → Option (Rv × List D)) : Sp := fun vs H Q Ex => ∃ F k us xs ws ds r xs', vs = .ref k :: ws ∧ ds.length + 1 = n ∧ Same F H ∧ Pre E F H ∧ F k = none ∧ H k = some (.lst us) ∧ Ats E F us xs ∧ Ats E F ws ds ∧ m xs ds = some (r, xs') ∧ match r with
  | .ok d => ∀ F' H' v us', GrB E k F H F' H' → H' k = some (.lst us') → Ats E F' us' xs' → At E F' v d → Q v H'
  | .ex e => ∀ F' H' cls dx us', GrB E k F H F' H' → H' k = some (.lst us') → Ats E F' us' xs' → ErAt E F' H' cls dx e → Ex cls dx H'
theorem spC_len {E : Ev} {n : Nat} {m : List D → List D → Option (Rv × List D)} {vs : List V} {H : Hp} {Q : VK} {Ex : XK} (h : spC E n m vs H Q Ex) : vs.length = n := by
  obtain ⟨F, k, us, xs, ws, ds, r, xs', rfl, hn, _, _, _, _, _, a, _⟩ := h
  rw [List.length_cons, a.len, hn]
def slotsC (n : Nat) (ds : List D) : Sl := some (.c 0) :: (ds.map (fun d => some (.v d)) ++ List.replicate (n - (ds.length + 1)) none)
def outC : So → Option (Rv × List D)
  | some (o, _, C) => match (C : Cs)[0]? with
    | some (some (Cell.lst xs)) => match o with
      | .rt d => some (.ok d, xs)
      | .nx => some (.ok .non, xs)
      | .ex e => some (.ex e, xs)
      | _ => none
    | _ => none
  | none => none
def runC (n a : Nat) (c : CS) (xs ds : List D) : Option (Rv × List D) := if ds.length + 1 = a then outC (c (slotsC n ds) [some (.lst xs)]) else none
structure FmC (n : Nat) (m : List D → List D → Option (Rv × List D)) : Prop where
  len : ∀ xs ds r, m xs ds = some r → ds.length + 1 = n
theorem fm_C {n a : Nat} {c : CS} : FmC a (runC n a c) := ⟨fun xs ds r h => by
  unfold runC at h
  by_cases q : ds.length + 1 = a
  · exact q
  · rw [if_neg q] at h; cases h⟩
section
variable {E : Ev}
theorem slotsC_sr {F : Hp} {k : Addr} {ws : List V} {ds : List D} {N : List Str} (h : Ats E F ws ds) : Sr E F [k] (L2.start N (.ref k :: ws)) (slotsC N.length ds) := by
  have s := slots_sr (N := N) (vs := ws) (as := [k]) h
  have e : L2.start N (.ref k :: ws) = some (.ref k) :: (ws.map some ++ List.replicate (N.length - (ws.length + 1)) none) := by
    unfold L2.start
    rfl
  rw [e]
  unfold slotsC
  refine ⟨by simp [h.len], fun i x ex => ?_⟩
  cases i with
  | zero => cases ex; exact ⟨.ref k, rfl, k, rfl, rfl⟩
  | succ i =>
    simp only [List.getElem?_cons_succ] at ex ⊢
    by_cases hi : i < ds.length
    · rw [List.getElem?_append_left (by rw [List.length_map]; exact hi), List.getElem?_map] at ex
      cases q : ds[i]? with
      | none => rw [q] at ex; cases ex
      | some d =>
        rw [q] at ex
        cases ex
        obtain ⟨v, e1, a⟩ := h.get q
        exact ⟨v, by rw [List.getElem?_append_left (by rw [List.length_map, h.len]; exact hi), List.getElem?_map, e1]; rfl, a⟩
    · rw [List.getElem?_append_right (by rw [List.length_map]; omega), List.getElem?_replicate] at ex
      split at ex <;> cases ex
theorem wdC_start {F H : Hp} {k : Addr} {us : List V} {xs : List D} (s : Same F H) (p : Pre E F H) (fk : F k = none) (hk : H k = some (.lst us)) (a : Ats E F us xs) : Wd E ⟨er H, F, [k]⟩ H F [k] [some (.lst xs)] where
  sub := s
  f0 := Sm.refl F
  keep := fun _ _ e _ _ _ => (er_some.mp e).1
  th0 := fun _ h => th_of h
  tab := p.tab
  nt := p.nt
  new := fun a o e z => by
    have z : F a = none := z
    rw [e] at z; cases z
  len := rfl
  nd := by simp
  pre := List.prefix_refl _
  fresh := fun a h => .inl h
  there := fun a h => by rw [List.mem_singleton.mp h]; exact ⟨_, hk, fun _ z => by cases z⟩
  at_ := fun i b c e1 e2 => by
    cases i with
    | zero => cases e1; cases e2; exact ⟨fk, _, hk, us, rfl, a⟩
    | succ i => simp at e1
theorem wdC_end {F H F' H' : Hp} {k : Addr} {as : List Addr} {C : Cs} {xs : List D} (w : Wd E ⟨er H, F, [k]⟩ H' F' as C) (e : C[0]? = some (some (.lst xs))) : GrB E k F H F' H' ∧ ∃ us, H' k = some (.lst us) ∧ Ats E F' us xs := by
  have a0 : as[0]? = some k := by
    obtain ⟨t, rfl⟩ := w.pre
    rfl
  obtain ⟨f, o, h, us, rfl, a⟩ := w.at_ 0 k _ a0 e
  exact ⟨⟨w.sub, w.f0, fun a o n e z nt => w.keep a o (er_some.mpr ⟨e, nt⟩) (by simpa using n) z nt, w.new, fun a h => w.th0 a h.er, w.tab, w.nt⟩, us, h, a⟩
theorem body_C {N : List Str} {a : Nat} {c : CS} {vs : List V} {H : Hp} {Q : VK} {Ex : XK} (h : spC E a (runC N.length a c) vs H Q Ex) : ∃ F k, rS E ⟨er H, F, [k]⟩ (fun cls d _ H' => Ex cls d H') c { nx := fun _ G => Q .non G, rt := Q } (L2.start N vs) H := by
  obtain ⟨F, k, us, xs, ws, ds, r, xs', rfl, hn, s, pr, fk, hk, au, aw, e, po⟩ := h
  refine ⟨F, k, F, [k], slotsC N.length ds, [some (.lst xs)], ?_⟩
  unfold runC at e
  rw [if_pos hn] at e
  cases q : c (slotsC N.length ds) [some (.lst xs)] with
  | none => rw [q] at e; cases e
  | some p =>
    obtain ⟨o, G', C'⟩ := p
    rw [q] at e
    refine ⟨o, G', C', wdC_start s pr fk hk au, slotsC_sr aw, rfl, fun F' H' as' σ' s' p' w sr' => ?_⟩
    unfold outC at e
    simp only at e
    cases q0 : C'[0]? with
    | none => rw [q0] at e; cases e
    | some oc =>
      cases oc with
      | none => rw [q0] at e; cases e
      | some cc =>
        cases cc with
        | dic ps => rw [q0] at e; cases e
        | ins c fs => rw [q0] at e; cases e
        | lst ys =>
          rw [q0] at e
          obtain ⟨g, us', h1, a1⟩ := wdC_end w q0
          cases o with
          | nx => cases e; exact po F' H' .non us' g h1 a1 .non
          | rt d => cases e; exact fun v a => po F' H' v us' g h1 a1 a
          | bk => cases e
          | ct => cases e
          | ex er => cases e; exact fun cls dx a => po F' H' cls dx us' g h1 a1 a
end
section
variable {P : Program} {w : World} {K : PySem.W.Frag} {mg : Str → Option Value} {base : Heap}
theorem ok_C {E : Ev} {x qual : Str} {st : Stmt} {f : Addr} {fd : FuncData} {N ps : List Str} {k : Nat} {c : CS} (F : Fun K x qual st f fd) (S : FnScope N ps (defScope st))
    (hb : ∀ (cdv : Value) (A : Around) (outer : List Env) (s : Shared) (H F0 : Hp) (o : Addr) (Ex : XK), Room k (A.deeper (envOfC qual (defScope st) s.heap.objs.size f cdv)) →
      PSs (cxOf (L2.CX P w) P w K mg base N qual (defScope st) f cdv A outer s H Ex) (defBody st) (rS E ⟨er H, F0, [o]⟩ (fun cls d _ H' => Ex cls d H') c)) : FnOk P w K mg base (L2.CX P w) (k + 1) f fd ps (spC E ps.length (runC N.length ps.length c)) :=
  F.okX S (fun _ _ _ _ h => spC_len h) fun cdv A outer s H vs Q Ex hr h => by
    obtain ⟨F0, o, h⟩ := body_C h
    exact ⟨_, hb cdv A outer s H F0 o Ex hr, h⟩
theorem ok_CG {E : Ev} {x qual : Str} {st : Stmt} {f : Addr} {fd : FuncData} {N ps : List Str} {k : Nat} {c : CS} (F : Fun K x qual st f fd) (S : FnScope N ps (defScope st))
    (hb : ∀ (cdv : Value) (A : Around) (outer : List Env) (s : Shared) (H F0 : Hp) (o : Addr) (Ex : XK), Room k (A.deeper (envOfC qual (defScope st) s.heap.objs.size f cdv)) → A.guards = some [] →
      PSs (cxOf (L2.CX P w) P w K mg base N qual (defScope st) f cdv A outer s H Ex) (defBody st) (rS E ⟨er H, F0, [o]⟩ (fun cls d _ H' => Ex cls d H') c)) : FnG P w K mg base (L2.CX P w) (k + 1) f fd ps (spC E ps.length (runC N.length ps.length c)) :=
  def_okX F S (fun _ _ _ _ h => spC_len h) fun cdv A outer s H vs Q Ex hr hg h => by
    obtain ⟨F0, o, h⟩ := body_C h
    exact ⟨_, hb cdv A outer s H F0 o Ex hr hg, h⟩
end
/-! ### the call -/
def fnC (m : List D → List D → Option (Rv × List D)) (xs : List Sv) (C : Cs) : Ro := match xs with
  | .c k :: r => match C[k]? with
    | some (some (.lst S)) => (vals r).bind fun ds => (m S ds).map fun p => (p.1.rs, C.set k (some (.lst p.2)))
    | _ => none
  | _ => none
def cFnC (m : List D → List D → Option (Rv × List D)) (ca : CA) : CE := fun G C => ba (ca G C) fun xs C1 => fnC m xs C1
theorem Wd.grB {E : Ev} {B : Bs} {H F H' F' : Hp} {as : List Addr} {C : Cs} {k : Nat} {a : Addr} {c : Cell} {us' : List V} {xs' : List D} (w : Wd E B H F as C) (ha : as[k]? = some a) (hc : C[k]? = some (some c)) (g : GrB E a F H F' H') (h : H' a = some (.lst us')) (at_ : Ats E F' us' xs') : Wd E B H' F' as (C.set k (some (.lst xs'))) := by
  obtain ⟨fa, o0, h0, _⟩ := w.at_ k a c ha hc
  have ma := List.mem_of_getElem? ha
  have f'a : F' a = none := by
    cases q : F' a with
    | none => rfl
    | some u => exact absurd (g.n a u q fa) (Th.er (w.there a ma))
  refine ⟨g.sub, w.f0.tr g.f, fun b u e n z nt => ?_, fun b h => g.th b (w.th0 b h), g.tab, g.nt, fun b u e z => ?_, by rw [List.length_set]; exact w.len, w.nd, w.pre, w.fresh, fun b hb => g.th b (w.there b hb), fun j b c2 e1 e2 => ?_⟩
  · have e1 := w.keep b u e n z nt
    have nb : b ≠ a := by
      rintro rfl
      rcases w.fresh b ma with q | q
      · exact n q
      · rw [q] at e; cases e
    cases q : F b with
    | none => exact g.h b u nb e1 q nt
    | some v => rw [w.new b v q z] at e; cases e
  · cases q : F b with
    | some v => exact w.new b v q z
    | none => exact w.nobaseE (g.n b u e q)
  · by_cases z : b = a
    · subst z
      obtain rfl := nodup_at w.nd e1 ha
      rw [List.getElem?_set_self (List.getElem?_eq_some_iff.mp hc).1] at e2
      cases e2
      exact ⟨f'a, _, h, us', rfl, at_⟩
    · have jk : k ≠ j := by rintro rfl; rw [ha] at e1; cases e1; exact z rfl
      rw [List.getElem?_set_ne jk] at e2
      obtain ⟨f1, o1, h1, h2⟩ := w.at_ j b c2 e1 e2
      refine ⟨?_, o1, g.h b o1 z h1 f1 (nt_ho h2), h2.mv g.f⟩
      cases q : F' b with
      | none => rfl
      | some u => exact absurd (g.n b u q f1) (Th.er ⟨_, h1, nt_ho h2⟩)
section
variable {X : Cx} {E : Ev} {B : Bs} {W : WX} {k n : Nat} {f : Addr} {fd : FuncData} {ps : List Str} {x : Str} {p pos : Pos} {e : Expr} {es : List Expr} {ca : CA} {m : List D → List D → Option (Rv × List D)} {σ : L2.St} {H : Hp} {Q : VK}
theorem rE_fnC (hn : FmC n m) (h : rE E B W (cFnC m ca) σ H Q) : rA E B W tru ca σ H fun vs H1 => spC E n m vs H1 Q (WE W σ) := rA_imp (rF_ba mo_tru h) fun vs H1 ⟨xs, h1⟩ => by
  obtain ⟨F, as, G, C, r, C', wd, sr, ⟨_, ax⟩, e, po⟩ := h1
  have e : fnC m xs C = some (r, C') := e
  unfold fnC at e
  cases ax with
  | nil => cases e
  | @cons v x vs xs a1 a2 =>
    cases x with
    | v d => cases e
    | c i =>
      simp only at e
      cases q : C[i]? with
      | none => rw [q] at e; cases e
      | some oc =>
        cases oc with
        | none => rw [q] at e; cases e
        | some c =>
          cases c with
          | dic ps => rw [q] at e; cases e
          | ins c fs => rw [q] at e; cases e
          | lst S =>
            rw [q] at e
            simp only at e
            cases q2 : vals xs with
            | none => rw [q2] at e; cases e
            | some ds =>
              rw [q2] at e
              simp only [Option.bind_some] at e
              cases q3 : m S ds with
              | none => rw [q3] at e; cases e
              | some pr =>
                obtain ⟨rv, S'⟩ := pr
                rw [q3] at e
                cases e
                obtain ⟨a, ha, rfl⟩ := a1
                obtain ⟨fa, o, h4, us, rfl, au⟩ := wd.at_ i a _ ha q
                refine ⟨F, a, us, S, vs, ds, rv, S', rfl, hn.len _ _ _ q3, wd.sub, wd.pr, fa, h4, au, vals_at a2 q2, q3, ?_⟩
                cases rv with
                | ok d => exact fun F' H' v us' g h' a' av => po.back (fun _ z => by cases z) g.f (wd.grB ha q g h' a') av
                | ex er => exact fun F' H' cls dx us' g h' a' ae => po.ex g.f (wd.grB ha q g h' a') ae
theorem ev_fnC (Fn : FnOk X.prog X.w X.K X.mg X.base (L2.CX X.prog X.w) k f fd ps (spC E n m)) (tk : Takes X W) (fm : FmC n m) (hr : Room k X.A) (hg : Gl X x) (hm : X.mg x = some (.ref f)) (hk : PySem.W.keepIn X.K (.ref f) = true) (hb : Binds X.K fd ps [])
    (ha : PA X (e :: es) (rA E B W tru ca)) (hdb : (x == ("__debug__" : Str)) = false := by decide) (he : starEach (e :: es) X.env = (false, eval e X.env) :: starEach es X.env := by rfl) (hpl : (backTo pos (starEach es X.env)).any (·.1) = false := by rfl) :
    PE X (.Call (.Name x p) (e :: es) [] pos) (rE E B W (cFnC m ca)) :=
  PE.weak (pe_callS Fn hr hg hm hk hb (fun σ => passAt tk σ) ha hdb he hpl) fun σ H Q h => rE_fnC fm h
theorem ev_fnCG (Fn : FnG X.prog X.w X.K X.mg X.base (L2.CX X.prog X.w) k f fd ps (spC E n m)) (tk : Takes X W) (fm : FmC n m) (hr : Room k X.A) (hgd : X.A.guards = some []) (hg : Gl X x) (hm : X.mg x = some (.ref f)) (hk : PySem.W.keepIn X.K (.ref f) = true) (hb : Binds X.K fd ps [])
    (ha : PA X (e :: es) (rA E B W tru ca)) (hdb : (x == ("__debug__" : Str)) = false := by decide) (he : starEach (e :: es) X.env = (false, eval e X.env) :: starEach es X.env := by rfl) (hpl : (backTo pos (starEach es X.env)).any (·.1) = false := by rfl) :
    PE X (.Call (.Name x p) (e :: es) [] pos) (rE E B W (cFnC m ca)) :=
  PE.weak (call_okS Fn hr hgd hg hm hk hb (fun σ => passAt tk σ) ha hdb he hpl) fun σ H Q h => rE_fnC fm h
end
end TL
set_option Elab.async false
set_option linter.all false
set_option maxRecDepth 100000
set_option maxHeartbeats 1000000
/-! Sx: < of data (ints, texts, tuples of such) is an order among such as can be compared; the one sorted list. -/
namespace Gd
open PySem PySem.Spec PyProof.Rows L2 PySem.SeqAt SrtO
mutual
theorem eqv_tOnly : ∀ {x y : PyData}, tOnly x = true → PyData.eqv x y = true → tOnly y = true → x = y
  | .int a, y, _, e, h => by
    cases y <;> simp [tOnly, PyData.eqv] at h e
    rw [e]
  | .str a, y, _, e, h => by
    cases y <;> simp [tOnly, PyData.eqv] at h e
    rw [e]
  | .tuple xs, y, hx, e, h => by
    cases y <;> simp [tOnly, PyData.eqv] at h e
    rw [tOnly] at hx
    rw [eqv_tOnlys hx e h]
  | .none, _, hx, _, _ => by simp [tOnly] at hx
  | .bool _, _, hx, _, _ => by simp [tOnly] at hx
  | .list _, _, hx, _, _ => by simp [tOnly] at hx
  | .dict _, _, hx, _, _ => by simp [tOnly] at hx
theorem eqv_tOnlys : ∀ {xs ys : List PyData}, tOnlys xs = true → PyData.eqvAll xs ys = true → tOnlys ys = true → xs = ys
  | [], [], _, _, _ => rfl
  | [], _ :: _, _, e, _ => by simp [PyData.eqvAll] at e
  | _ :: _, [], _, e, _ => by simp [PyData.eqvAll] at e
  | x :: xs, y :: ys, hx, e, hy => by
    rw [tOnlys, Bool.and_eq_true] at hx hy
    rw [PyData.eqvAll, Bool.and_eq_true] at e
    rw [eqv_tOnly hx.1 e.1 hy.1, eqv_tOnlys hx.2 e.2 hy.2]
end
theorem eqv_self {x : PyData} (h : tOnly x = true) : PyData.eqv x x = true := eqv_refl_plain x (tOnly_plain x h)
theorem lt_cps_asym {a b : Str} (h : a.cps.toList < b.cps.toList) : ¬ b.cps.toList < a.cps.toList := fun h2 => List.lt_irrefl _ (List.lt_trans h h2)
theorem cps_total {a b : Str} (h1 : ¬ a.cps.toList < b.cps.toList) (h2 : ¬ b.cps.toList < a.cps.toList) : a = b := by
  have h := List.le_antisymm (List.not_lt.mp h2) (List.not_lt.mp h1)
  obtain ⟨⟨a⟩⟩ := a
  obtain ⟨⟨b⟩⟩ := b
  cases h
  rfl
theorem ltDs_eq {x y : PyData} {xs ys : List PyData} (h : PyData.eqv x y = true) : ltDs (x :: xs) (y :: ys) = ltDs xs ys := by rw [ltDs, if_pos h]
theorem ltDs_ne {x y : PyData} {xs ys : List PyData} (h : ¬ PyData.eqv x y = true) : ltDs (x :: xs) (y :: ys) = ltD x y := by rw [ltDs, if_neg h]
theorem ltDs_nn (ys : List PyData) : ltDs ys [] = false := by cases ys <;> simp [ltDs]
theorem ltDs_nc (y : PyData) (ys : List PyData) : ltDs [] (y :: ys) = true := by simp [ltDs]
mutual
/-- such as can be compared, neither below the other, are one -/
theorem ltD_tot : ∀ {x y : PyData}, tOnly x = true → tOnly y = true → okD x y = true → ltD x y = false → ltD y x = false → x = y
  | .int a, y, hx, hy, ok, h1, h2 => by
    cases y <;> simp [okD] at ok
    rw [ltD, decide_eq_false_iff_not] at h1 h2
    congr 1; omega
  | .str a, y, hx, hy, ok, h1, h2 => by
    cases y <;> simp [okD] at ok
    rw [ltD, decide_eq_false_iff_not] at h1 h2
    rw [cps_total h1 h2]
  | .tuple xs, y, hx, hy, ok, h1, h2 => by
    cases y <;> simp [okD] at ok
    rw [ltD] at h1 h2
    rw [tOnly] at hx hy
    rw [ltDs_tot hx hy ok h1 h2]
  | .none, _, hx, _, _, _, _ => by simp [tOnly] at hx
  | .bool _, _, hx, _, _, _, _ => by simp [tOnly] at hx
  | .list _, _, hx, _, _, _, _ => by simp [tOnly] at hx
  | .dict _, _, hx, _, _, _, _ => by simp [tOnly] at hx
theorem ltDs_tot : ∀ {xs ys : List PyData}, tOnlys xs = true → tOnlys ys = true → okDs xs ys = true → ltDs xs ys = false → ltDs ys xs = false → xs = ys
  | [], [], _, _, _, _, _ => rfl
  | [], y :: ys, _, _, _, h1, _ => by rw [ltDs_nc] at h1; cases h1
  | x :: xs, [], _, _, _, _, h2 => by rw [ltDs_nc] at h2; cases h2
  | x :: xs, y :: ys, hx, hy, ok, h1, h2 => by
    rw [tOnlys, Bool.and_eq_true] at hx hy
    rw [okDs, Bool.and_eq_true] at ok
    by_cases e : PyData.eqv x y = true
    · obtain rfl := eqv_tOnly hx.1 e hy.1
      rw [ltDs_eq e] at h1 h2
      rw [ltDs_tot hx.2 hy.2 ok.2 h1 h2]
    · have e2 : ¬ PyData.eqv y x = true := fun z => e (by rw [eqv_tOnly hy.1 z hx.1]; exact eqv_self hx.1)
      rw [ltDs_ne e] at h1
      rw [ltDs_ne e2] at h2
      obtain rfl := ltD_tot hx.1 hy.1 ok.1 h1 h2
      exact absurd (eqv_self hx.1) e
end
mutual
theorem ltD_asym : ∀ {x y : PyData}, tOnly x = true → tOnly y = true → ltD x y = true → ltD y x = false
  | .int a, y, hx, hy, h => by
    cases y <;> simp [ltD] at h ⊢
    omega
  | .str a, y, hx, hy, h => by
    cases y <;> simp [ltD] at h
    rw [ltD, decide_eq_false_iff_not]
    exact lt_cps_asym h
  | .tuple xs, y, hx, hy, h => by
    cases y <;> simp [ltD] at h
    rw [ltD]
    rw [tOnly] at hx hy
    exact ltDs_asym hx hy h
  | .none, _, hx, _, _ => by simp [tOnly] at hx
  | .bool _, _, hx, _, _ => by simp [tOnly] at hx
  | .list _, _, hx, _, _ => by simp [tOnly] at hx
  | .dict _, _, hx, _, _ => by simp [tOnly] at hx
theorem ltDs_asym : ∀ {xs ys : List PyData}, tOnlys xs = true → tOnlys ys = true → ltDs xs ys = true → ltDs ys xs = false
  | xs, [], _, _, h => by rw [ltDs_nn] at h; cases h
  | [], y :: ys, _, _, _ => ltDs_nn _
  | x :: xs, y :: ys, hx, hy, h => by
    rw [tOnlys, Bool.and_eq_true] at hx hy
    by_cases e : PyData.eqv x y = true
    · obtain rfl := eqv_tOnly hx.1 e hy.1
      rw [ltDs_eq e] at h ⊢
      exact ltDs_asym hx.2 hy.2 h
    · have e2 : ¬ PyData.eqv y x = true := fun z => e (by rw [eqv_tOnly hy.1 z hx.1]; exact eqv_self hx.1)
      rw [ltDs_ne e] at h
      rw [ltDs_ne e2]
      exact ltD_asym hx.1 hy.1 h
end
mutual
theorem ltD_tr : ∀ {x y z : PyData}, tOnly x = true → tOnly y = true → tOnly z = true → okD x y = true → okD y z = true → okD x z = true → ltD x y = true → ltD y z = true → ltD x z = true
  | .int a, y, z, hx, hy, hz, o1, o2, o3, h1, h2 => by
    cases y <;> simp [okD] at o1
    cases z <;> simp [okD] at o2
    rw [ltD, decide_eq_true_eq] at h1 h2 ⊢
    omega
  | .str a, y, z, hx, hy, hz, o1, o2, o3, h1, h2 => by
    cases y <;> simp [okD] at o1
    cases z <;> simp [okD] at o2
    rw [ltD, decide_eq_true_eq] at h1 h2 ⊢
    exact List.lt_trans h1 h2
  | .tuple xs, y, z, hx, hy, hz, o1, o2, o3, h1, h2 => by
    cases y <;> simp [okD] at o1
    cases z <;> simp [okD] at o2
    rw [okD] at o3
    rw [ltD] at h1 h2 ⊢
    rw [tOnly] at hx hy hz
    exact ltDs_tr hx hy hz o1 o2 o3 h1 h2
  | .none, _, _, hx, _, _, _, _, _, _, _ => by simp [tOnly] at hx
  | .bool _, _, _, hx, _, _, _, _, _, _, _ => by simp [tOnly] at hx
  | .list _, _, _, hx, _, _, _, _, _, _, _ => by simp [tOnly] at hx
  | .dict _, _, _, hx, _, _, _, _, _, _, _ => by simp [tOnly] at hx
theorem ltDs_tr : ∀ {xs ys zs : List PyData}, tOnlys xs = true → tOnlys ys = true → tOnlys zs = true → okDs xs ys = true → okDs ys zs = true → okDs xs zs = true → ltDs xs ys = true → ltDs ys zs = true → ltDs xs zs = true
  | xs, [], zs, _, _, _, _, _, _, h, _ => by rw [ltDs_nn] at h; cases h
  | xs, y :: ys, [], _, _, _, _, _, _, _, h => by rw [ltDs_nn] at h; cases h
  | [], y :: ys, z :: zs, _, _, _, _, _, _, _, _ => ltDs_nc _ _
  | x :: xs, y :: ys, z :: zs, hx, hy, hz, o1, o2, o3, h1, h2 => by
    rw [tOnlys, Bool.and_eq_true] at hx hy hz
    rw [okDs, Bool.and_eq_true] at o1 o2 o3
    by_cases e1 : PyData.eqv x y = true
    · obtain rfl := eqv_tOnly hx.1 e1 hy.1
      rw [ltDs_eq e1] at h1
      by_cases e2 : PyData.eqv x z = true
      · rw [ltDs_eq e2] at h2 ⊢
        exact ltDs_tr hx.2 hy.2 hz.2 o1.2 o2.2 o3.2 h1 h2
      · rw [ltDs_ne e2] at h2 ⊢
        exact h2
    · rw [ltDs_ne e1] at h1
      by_cases e2 : PyData.eqv y z = true
      · obtain rfl := eqv_tOnly hy.1 e2 hz.1
        rw [ltDs_ne e1]
        exact h1
      · rw [ltDs_ne e2] at h2
        have h3 := ltD_tr hx.1 hy.1 hz.1 o1.1 o2.1 o3.1 h1 h2
        by_cases e3 : PyData.eqv x z = true
        · obtain rfl := eqv_tOnly hx.1 e3 hz.1
          have := ltD_asym hx.1 hy.1 h1
          rw [this] at h2
          cases h2
        · rw [ltDs_ne e3]
          exact h3
end
/-- negative transitivity, among such as can be compared -/
theorem ltD_ntr {x y z : PyData} (hx : tOnly x = true) (hy : tOnly y = true) (hz : tOnly z = true) (o1 : okD z x = true) (o2 : okD x y = true) (o3 : okD z y = true) (h1 : ltD y x = false) (h2 : ltD z y = false) : ltD z x = false := by
  cases h : ltD z x with
  | false => rfl
  | true =>
    exfalso
    cases h3 : ltD x y with
    | false =>
      obtain rfl := ltD_tot hx hy o2 h3 h1
      rw [h] at h2
      cases h2
    | true =>
      have := ltD_tr hz hx hy o1 o2 o3 h h3
      rw [this] at h2
      cases h2
/-! ### the one sorted list -/
section
variable {α : Type}
def ins (lt : α → α → Bool) (x : α) : List α → List α
  | [] => [x]
  | y :: ys => if lt y x = true then y :: ins lt x ys else x :: y :: ys
def isort (lt : α → α → Bool) : List α → List α
  | [] => []
  | x :: xs => ins lt x (isort lt xs)
theorem ins_perm (lt : α → α → Bool) (x : α) : ∀ ys : List α, (ins lt x ys).Perm (x :: ys)
  | [] => List.Perm.refl _
  | y :: ys => by
    unfold ins
    split
    · exact ((ins_perm lt x ys).cons y).trans (List.Perm.swap x y ys)
    · exact List.Perm.refl _
theorem isort_perm (lt : α → α → Bool) : ∀ xs : List α, (isort lt xs).Perm xs
  | [] => List.Perm.refl _
  | x :: xs => (ins_perm lt x _).trans ((isort_perm lt xs).cons x)
/-- an order among the members of a list -/
structure OrdOn (lt : α → α → Bool) (l : List α) : Prop where
  asym : ∀ x ∈ l, ∀ y ∈ l, lt x y = true → lt y x = false
  ntr : ∀ x ∈ l, ∀ y ∈ l, ∀ z ∈ l, lt y x = false → lt z y = false → lt z x = false
  tot : ∀ x ∈ l, ∀ y ∈ l, lt x y = false → lt y x = false → x = y
theorem OrdOn.sub {lt : α → α → Bool} {l m : List α} (o : OrdOn lt l) (p : ∀ a ∈ m, a ∈ l) : OrdOn lt m :=
  ⟨fun a ha b hb => o.asym a (p a ha) b (p b hb), fun a ha b hb c hc => o.ntr a (p a ha) b (p b hb) c (p c hc), fun a ha b hb => o.tot a (p a ha) b (p b hb)⟩
theorem ins_srtd {lt : α → α → Bool} {x : α} : ∀ {ys : List α}, OrdOn lt (x :: ys) → Srtd lt ys → Srtd lt (ins lt x ys)
  | [], _, _ => srtd_one x
  | y :: ys, o, h => by
    have o2 : OrdOn lt (x :: ys) := o.sub fun a ha => by
      rcases List.mem_cons.mp ha with rfl | ha
      · simp
      · simp [ha]
    have hp := List.pairwise_cons.mp h
    unfold ins
    split
    · rename_i c
      refine List.pairwise_cons.mpr ⟨fun z hz => ?_, ins_srtd o2 hp.2⟩
      rcases List.mem_cons.mp ((ins_perm lt x ys).mem_iff.mp hz) with rfl | hz
      · exact o.asym y (by simp) z (by simp) c
      · exact hp.1 z hz
    · rename_i c
      have c : lt y x = false := by simpa using c
      refine List.pairwise_cons.mpr ⟨fun z hz => ?_, h⟩
      rcases List.mem_cons.mp hz with rfl | hz
      · exact c
      · exact o.ntr x (by simp) y (by simp) z (by simp [hz]) c (hp.1 z hz)
theorem OrdOn.perm {lt : α → α → Bool} {l m : List α} (o : OrdOn lt l) (p : m.Perm l) : OrdOn lt m :=
  ⟨fun a ha b hb => o.asym a (p.mem_iff.mp ha) b (p.mem_iff.mp hb), fun a ha b hb c hc => o.ntr a (p.mem_iff.mp ha) b (p.mem_iff.mp hb) c (p.mem_iff.mp hc), fun a ha b hb => o.tot a (p.mem_iff.mp ha) b (p.mem_iff.mp hb)⟩
theorem OrdOn.tail {lt : α → α → Bool} {x : α} {l : List α} (o : OrdOn lt (x :: l)) : OrdOn lt l :=
  ⟨fun a ha b hb => o.asym a (by simp [ha]) b (by simp [hb]), fun a ha b hb c hc => o.ntr a (by simp [ha]) b (by simp [hb]) c (by simp [hc]), fun a ha b hb => o.tot a (by simp [ha]) b (by simp [hb])⟩
theorem isort_srtd {lt : α → α → Bool} : ∀ {xs : List α}, OrdOn lt xs → Srtd lt (isort lt xs)
  | [], _ => List.Pairwise.nil
  | x :: xs, o => ins_srtd (o.perm ((isort_perm lt xs).cons x)) (isort_srtd o.tail)
theorem srtd_uniq {lt : α → α → Bool} : ∀ {xs ys : List α}, OrdOn lt xs → Srtd lt xs → Srtd lt ys → xs.Perm ys → xs = ys
  | [], ys, _, _, _, p => by rw [List.nil_perm.mp p]
  | x :: xs, [], _, _, _, p => by have := List.perm_nil.mp p; cases this
  | x :: xs, y :: ys, o, hx, hy, p => by
    have e : x = y := by
      by_cases e : x = y
      · exact e
      · have my : y ∈ xs := by
          have : y ∈ x :: xs := p.mem_iff.mpr (by simp)
          rcases List.mem_cons.mp this with rfl | h
          · exact absurd rfl e
          · exact h
        have mx : x ∈ ys := by
          have : x ∈ y :: ys := p.mem_iff.mp (by simp)
          rcases List.mem_cons.mp this with rfl | h
          · exact absurd rfl e
          · exact h
        exact o.tot x (by simp) y (by simp [my]) ((List.pairwise_cons.mp hy).1 x mx) ((List.pairwise_cons.mp hx).1 y my)
    subst e
    rw [srtd_uniq o.tail (List.pairwise_cons.mp hx).2 (List.pairwise_cons.mp hy).2 (List.perm_cons x |>.mp p)]
theorem isort_uniq {lt : α → α → Bool} {xs ys : List α} (o : OrdOn lt xs) (h : Srtd lt ys) (p : ys.Perm xs) : ys = isort lt xs :=
  srtd_uniq (o.perm p) h (isort_srtd o) (p.trans (isort_perm lt xs).symm)
end
end Gd
set_option Elab.async false
set_option linter.all false
set_option maxRecDepth 100000
set_option maxHeartbeats 1000000
/-! Um: sorted(..). -/
namespace TL
open PySem PySem.Spec PyProof.Rows L2 Gd SrtO PySem.SeqAt
def pOf (d : D) : PyData := (toP d).getD .none
def dlt (d e : D) : Bool := ltD (pOf d) (pOf e)
def dsort (ds : List D) : List D := isort dlt ds
mutual
theorem toP_inj : ∀ {d e : D} {p : PyData}, toP d = some p → toP e = some p → d = e
  | .non, e, p, h1, h2 => by
    simp only [toP] at h1
    cases h1
    cases e <;> simp only [toP, Option.some.injEq, reduceCtorEq] at h2 <;> first | rfl | (split at h2 <;> cases h2) | skip
    all_goals (rename_i ds; cases q : toPs ds with | none => rw [q] at h2; cases h2 | some ps => rw [q] at h2; cases h2)
  | .bl b, e, p, h1, h2 => by
    simp only [toP] at h1
    cases h1
    cases e <;> simp only [toP, Option.some.injEq, reduceCtorEq, PyData.bool.injEq] at h2
    · rw [h2]
    all_goals (rename_i ds; cases q : toPs ds with | none => rw [q] at h2; cases h2 | some ps => rw [q] at h2; cases h2)
  | .int b, e, p, h1, h2 => by
    simp only [toP] at h1
    cases h1
    cases e <;> simp only [toP, Option.some.injEq, reduceCtorEq, PyData.int.injEq] at h2
    · rw [h2]
    all_goals (rename_i ds; cases q : toPs ds with | none => rw [q] at h2; cases h2 | some ps => rw [q] at h2; cases h2)
  | .str b, e, p, h1, h2 => by
    simp only [toP] at h1
    cases h1
    cases e <;> simp only [toP, Option.some.injEq, reduceCtorEq, PyData.str.injEq] at h2
    · rw [h2]
    all_goals (rename_i ds; cases q : toPs ds with | none => rw [q] at h2; cases h2 | some ps => rw [q] at h2; cases h2)
  | .tup ds, e, p, h1, h2 => by
    simp only [toP] at h1
    cases q1 : toPs ds with
    | none => rw [q1] at h1; cases h1
    | some ps =>
      rw [q1] at h1
      cases h1
      cases e <;> simp only [toP, Option.some.injEq, reduceCtorEq] at h2
      all_goals (rename_i es; cases q : toPs es with | none => rw [q] at h2; cases h2 | some ps' => rw [q] at h2; first | (cases h2; rw [toPs_inj q1 q]; done) | (cases h2; done))
  | .lst ds, e, p, h1, h2 => by
    simp only [toP] at h1
    cases q1 : toPs ds with
    | none => rw [q1] at h1; cases h1
    | some ps =>
      rw [q1] at h1
      cases h1
      cases e <;> simp only [toP, Option.some.injEq, reduceCtorEq] at h2
      all_goals (rename_i es; cases q : toPs es with | none => rw [q] at h2; cases h2 | some ps' => rw [q] at h2; first | (cases h2; rw [toPs_inj q1 q]; done) | (cases h2; done))
  | .dic _, _, _, h1, _ => by simp only [toP] at h1; cases h1
  | .obj _ _, _, _, h1, _ => by simp only [toP] at h1; cases h1
  | .ty _, _, _, h1, _ => by simp only [toP] at h1; cases h1
  | .cls _, _, _, h1, _ => by simp only [toP] at h1; cases h1
  | .scr _, _, _, h1, _ => by simp only [toP] at h1; cases h1
theorem toPs_inj : ∀ {ds es : List D} {ps : List PyData}, toPs ds = some ps → toPs es = some ps → ds = es
  | [], [], _, _, _ => rfl
  | [], e :: es, _, h1, h2 => by
    simp only [toPs] at h1 h2
    cases h1
    split at h2 <;> cases h2
  | d :: ds, [], _, h1, h2 => by
    simp only [toPs] at h1 h2
    cases h2
    split at h1 <;> cases h1
  | d :: ds, e :: es, _, h1, h2 => by
    simp only [toPs] at h1 h2
    cases q1 : toP d with
    | none => rw [q1] at h1; cases h1
    | some p1 =>
      cases q2 : toPs ds with
      | none => rw [q1, q2] at h1; cases h1
      | some p2 =>
        rw [q1, q2] at h1
        cases h1
        cases q3 : toP e with
        | none => rw [q3] at h2; cases h2
        | some p3 =>
          cases q4 : toPs es with
          | none => rw [q3, q4] at h2; cases h2
          | some p4 =>
            rw [q3, q4] at h2
            cases h2
            rw [toP_inj q1 q3, toPs_inj q2 q4]
end
theorem toPs_get : ∀ {ds : List D} {ps : List PyData} {i : Nat} {d : D}, toPs ds = some ps → ds[i]? = some d → ∃ p, ps[i]? = some p ∧ toP d = some p
  | [], _, _, _, _, e => by simp at e
  | d :: ds, ps, i, d', h, e => by
    simp only [toPs] at h
    cases q1 : toP d with
    | none => rw [q1] at h; cases h
    | some p1 =>
      cases q2 : toPs ds with
      | none => rw [q1, q2] at h; cases h
      | some p2 =>
        rw [q1, q2] at h
        cases h
        cases i with
        | zero => cases e; exact ⟨p1, rfl, q1⟩
        | succ i => exact toPs_get (i := i) q2 (by simpa using e)
theorem toPs_mem {ds : List D} {ps : List PyData} {d : D} (h : toPs ds = some ps) (m : d ∈ ds) : toP d = some (pOf d) ∧ pOf d ∈ ps := by
  obtain ⟨i, e⟩ := List.mem_iff_getElem?.mp m
  obtain ⟨p, e2, q⟩ := toPs_get h e
  have z : pOf d = p := by unfold pOf; rw [q]; rfl
  rw [z]
  exact ⟨q, List.mem_of_getElem? e2⟩
/-- tuples of data that can be put in order: all begin with an int, or all with a text -/
def sOk (ps : List PyData) : Bool := ps.all (fun p => tOnly p && decide (p.depth ≤ 60)) && (ps.all (headK true) || ps.all (headK false)) && ps.all fun p => ps.all fun q => okD p q
theorem ord_P {ds : List D} {ps : List PyData} (h : toPs ds = some ps) (t : ∀ p ∈ ps, tOnly p = true) (o : ∀ p ∈ ps, ∀ q ∈ ps, okD p q = true) : OrdOn dlt ds := by
  have m := fun d (hd : d ∈ ds) => (toPs_mem h hd).2
  refine ⟨fun x hx y hy => ltD_asym (t _ (m x hx)) (t _ (m y hy)), fun x hx y hy z hz => ltD_ntr (t _ (m x hx)) (t _ (m y hy)) (t _ (m z hz)) (o _ (m z hz) _ (m x hx)) (o _ (m x hx) _ (m y hy)) (o _ (m z hz) _ (m y hy)), fun x hx y hy h1 h2 => ?_⟩
  have e := ltD_tot (t _ (m x hx)) (t _ (m y hy)) (o _ (m x hx) _ (m y hy)) h1 h2
  have q1 := (toPs_mem h hx).1
  have q2 := (toPs_mem h hy).1
  rw [← e] at q2
  exact toP_inj q1 q2
/-- the item of ds that stands at v -/
def jOf (xs : List V) (ds : List D) (v : V) : D := (((xs.zip ds).find? fun p => decide (p.1 = v)).map (·.2)).getD (ds.headD .non)
section
variable {E : Ev} {F : Hp}
theorem jOf_at : ∀ {xs : List V} {ds : List D} {v : V}, Ats E F xs ds → v ∈ xs → At E F v (jOf xs ds v) ∧ jOf xs ds v ∈ ds
  | _, _, _, .nil, h => by cases h
  | _, _, v, .cons (v := x) (vs := xs) (d := d) (ds := ds) h r, m => by
    unfold jOf
    rw [List.zip_cons_cons]
    by_cases c : x = v
    · rw [List.find?_cons_of_pos (by simp [c])]
      subst c
      exact ⟨h, List.mem_cons_self⟩
    · rw [List.find?_cons_of_neg (by simp [c])]
      have m2 : v ∈ xs := (List.mem_cons.mp m).resolve_left fun z => c z.symm
      obtain ⟨a, b⟩ := jOf_at r m2
      unfold jOf at a b
      cases q : (xs.zip ds).find? fun p => decide (p.1 = v) with
      | some p => rw [q] at a b; exact ⟨a, List.mem_cons_of_mem _ b⟩
      | none =>
        exfalso
        obtain ⟨i, e⟩ := List.mem_iff_getElem?.mp m2
        obtain ⟨d', e2, _⟩ := r.getV e
        have z : (xs.zip ds)[i]? = some (v, d') := List.getElem?_zip_eq_some.mpr ⟨e, e2⟩
        have := List.find?_eq_none.mp q (v, d') (List.mem_of_getElem? z)
        simp at this
theorem jOf_mem {xs : List V} {ds : List D} (v : V) (h : ds ≠ []) : jOf xs ds v ∈ ds := by
  unfold jOf
  cases q : (xs.zip ds).find? fun p => decide (p.1 = v) with
  | some p => exact (List.of_mem_zip (List.mem_of_find?_eq_some q)).2
  | none =>
    cases ds with
    | nil => exact absurd rfl h
    | cons d ds => exact List.mem_cons_self
/-- ys are the xs in another order: so are their trees -/
theorem perm_at (uniq : ∀ v d e, At E F v d → At E F v e → toP d = toP e) {xs ys : List V} {ds : List D} {ps : List PyData} (r : Ats E F xs ds) (h : toPs ds = some ps) (p : ys.Perm xs) : Ats E F ys (ys.map (jOf xs ds)) ∧ (ys.map (jOf xs ds)).Perm ds := by
  refine ⟨?_, ?_⟩
  · have : ∀ zs : List V, (∀ z ∈ zs, z ∈ xs) → Ats E F zs (zs.map (jOf xs ds)) := fun zs => by
      induction zs with
      | nil => exact fun _ => .nil
      | cons z zs ih => exact fun hz => .cons (jOf_at r (hz z List.mem_cons_self)).1 (ih fun w hw => hz w (List.mem_cons_of_mem _ hw))
    exact this ys fun z hz => p.mem_iff.mp hz
  · have e : xs.map (jOf xs ds) = ds := by
      apply List.ext_getElem?
      intro i
      rw [List.getElem?_map]
      cases q : xs[i]? with
      | none =>
        rw [List.getElem?_eq_none (by rw [← r.len]; exact List.getElem?_eq_none_iff.mp q)]
        rfl
      | some v =>
        obtain ⟨d, e1, a⟩ := r.getV q
        rw [e1]
        obtain ⟨a2, m2⟩ := jOf_at r (List.mem_of_getElem? q)
        have z := uniq _ _ _ a2 a
        have q1 := (toPs_mem h m2).1
        have q2 := (toPs_mem h (List.mem_of_getElem? e1)).1
        rw [q1, q2] at z
        have z2 : pOf (jOf xs ds v) = pOf d := Option.some.inj z
        rw [z2] at q1
        exact congrArg some (toP_inj q1 q2)
    have := p.map (jOf xs ds)
    rw [e] at this
    exact this
end
def intsD : List D → Option (List Int)
  | [] => some []
  | .int i :: r => (intsD r).map (i :: ·)
  | _ => none
theorem ints_at {E : Ev} {F : Hp} : ∀ {vs : List V} {ds : List D} {ns : List Int}, Ats E F vs ds → intsD ds = some ns → vs = ns.map V.int ∧ ds = ns.map D.int
  | _, _, _, .nil, e => by cases e; exact ⟨rfl, rfl⟩
  | _, _, _, .cons (d := d) (ds := ds) h r, e => by
    cases d with
    | int b =>
      have e : (intsD ds).map (b :: ·) = some _ := e
      cases q : intsD ds with
      | none => rw [q] at e; cases e
      | some bs =>
        rw [q] at e
        cases e
        obtain ⟨h1, h2⟩ := ints_at r q
        rw [at_int h, h1, h2]
        exact ⟨rfl, rfl⟩
    | _ => cases e
theorem ats_ints {E : Ev} {F : Hp} : ∀ ns : List Int, Ats E F (ns.map V.int) (ns.map D.int)
  | [] => .nil
  | n :: ns => .cons (.int n) (ats_ints ns)
theorem toPs_ints : ∀ ns : List Int, toPs (ns.map D.int) = some (ns.map PyData.int)
  | [] => by simp only [List.map_nil, toPs]
  | n :: ns => by simp only [List.map_cons, toPs, toP, toPs_ints ns]
theorem sort_ints {ms ns : List Int} (p : ms.Perm ns) (s : ms.Pairwise (· ≤ ·)) : ms.map D.int = dsort (ns.map D.int) := by
  refine isort_uniq (ord_P (toPs_ints ns) (fun p hp => ?_) fun p hp q hq => ?_) ?_ (p.map _)
  · obtain ⟨n, _, rfl⟩ := List.mem_map.mp hp
    rfl
  · obtain ⟨n, _, rfl⟩ := List.mem_map.mp hp
    obtain ⟨m, _, rfl⟩ := List.mem_map.mp hq
    rfl
  · refine List.pairwise_map.mpr (s.imp fun {a b} h => ?_)
    show ltD (.int b) (.int a) = false
    rw [ltD]
    exact decide_eq_false (by omega)
def sortL (xs : List D) : Option Rd1 := match intsD xs with
  | some ns => if ns.length < 64 then some (.n (.lst (dsort xs))) else none
  | none => (toPs xs).bind fun ps => if sOk ps = true then some (.n (.lst (dsort xs))) else none
def fSort (ds : List D) : Option Rd1 := match ds with
  | [.lst xs] => sortL xs
  | [.tup xs] => sortL xs
  | _ => none
section
variable {X : Cx} {E : Ev}
theorem dp_uniq {F H : Hp} {pins : List (Addr × Obj)} {s : Shared} {σ : L2.St} (hK : X.K = E.K) (I : Inv X pins σ H s) (sub : Same F H) {a : Addr} {d e : D} {p q : PyData} (h1 : At E F (.ref a) d) (h2 : At E F (.ref a) e) (e1 : toP d = some p) (e2 : toP e = some q) : p = q := by
  obtain ⟨as, r1⟩ := Dp.reads I p (V.ref a) (Value.ref a) (by rw [hK]; exact at_dp (h1.mv (.of sub)) e1) (show L2.RelV (V.ref a) (Value.ref a) from rfl)
  obtain ⟨bs, r2⟩ := Dp.reads I q (V.ref a) (Value.ref a) (by rw [hK]; exact at_dp (h2.mv (.of sub)) e2) (show L2.RelV (V.ref a) (Value.ref a) from rfl)
  exact plain_unique p q _ _ _ (toP_plain e1) r1 r2
theorem headK_tup {t : Bool} {p : PyData} (h : headK t p = true) : ∃ ps, p = .tuple ps := by
  cases p with
  | tuple ps => exact ⟨ps, rfl⟩
  | _ => cases h
theorem cd_sort (hK : X.K = E.K) (hu : X.A.units + 100 < cLine) : CallD X E (.builtin "sorted") fSort := fun pins s σ H xs us Q I r ⟨F, ds, z, sub, px, e, k⟩ => by
  have main : ∀ (ys : List D) (a : Addr) (vs : List V), xs = [.ref a] → (SqL X.K H a vs ∨ SqT X.K H a vs) → Ats E F vs ys → sortL ys = some z → wpAny (model X.prog X.w) X.A (call (.builtin "sorted") us) (EP X pins σ Q) X.xe s := fun ys a vs ex hs r1 e => by
    subst ex
    unfold sortL at e
    cases q : intsD ys with
    | some ns =>
      rw [q] at e
      simp only at e
      by_cases c : ns.length < 64
      · rw [if_pos c] at e
        cases e
        obtain ⟨rfl, rfl⟩ := ints_at r1 q
        have fin : ∀ (ms : List Int) (p : Addr), ms.Perm ns → ms.Pairwise (· ≤ ·) → H p = none → Q (.ref p) (upd H p (.lst (ms.map V.int))) := fun ms p pm sr hp => finL sub k (by rw [← sort_ints pm sr]; exact ats_ints ms) p hp
        rcases hs with hs | hs
        · exact cr_sorted pins s σ H _ us Q I r ⟨a, ns, rfl, hs, c, fin⟩
        · exact call_sortT pins s σ H _ us Q I r ⟨a, ns, rfl, hs, c, fin⟩
      · rw [if_neg c] at e; cases e
    | none =>
      rw [q] at e
      simp only at e
      cases q2 : toPs ys with
      | none => rw [q2] at e; cases e
      | some ps =>
        rw [q2] at e
        simp only [Option.bind_some] at e
        by_cases c : sOk ps = true
        · rw [if_pos c] at e
          cases e
          unfold sOk at c
          simp only [Bool.and_eq_true, Bool.or_eq_true, List.all_eq_true, decide_eq_true_eq] at c
          obtain ⟨⟨c1, c2⟩, c3⟩ := c
          obtain ⟨t, ct⟩ : ∃ t, ∀ p ∈ ps, headK t p = true := c2.elim (fun h => ⟨true, h⟩) fun h => ⟨false, h⟩
          have o := ord_P q2 (fun p hp => (c1 p hp).1) c3
          have ne : ys ≠ [] := fun z => by subst z; cases q
          have jm := fun v => (toPs_mem q2 (jOf_mem (xs := vs) v ne)).2
          have refs : ∀ v ∈ vs, ∃ b, v = V.ref b := fun v hv => by
            obtain ⟨a1, m1⟩ := jOf_at r1 hv
            obtain ⟨ps', e1⟩ := headK_tup (ct _ (toPs_mem q2 m1).2)
            have e2 := (toPs_mem q2 m1).1
            rw [e1] at e2
            generalize jOf vs ys v = dd at a1 e2
            cases a1 with
            | tup h r => exact ⟨_, rfl⟩
            | lst h r => exact ⟨_, rfl⟩
            | _ => simp only [toP] at e2; cases e2
          have uniq : ∀ v ∈ vs, ∀ d e, At E F v d → At E F v e → toP d = some (pOf d) → toP e = some (pOf e) → toP d = toP e := fun v hv d e h1 h2 q1 q2 => by
            obtain ⟨b, rfl⟩ := refs v hv
            rw [q1, q2, dp_uniq hK I sub h1 h2 q1 q2]
          refine call_sortDt hu pins s σ H _ us Q I r ⟨a, vs, fun v => pOf (jOf vs ys v), t, rfl, hs, ⟨fun x y => ?_, fun x y w => ?_⟩, fun x hx => ?_, fun x hx y hy => c3 _ (jm x) _ (jm y), fun us' p s1 s2 hp => ?_⟩
          · exact o.asym _ (jOf_mem x ne) _ (jOf_mem y ne)
          · exact o.ntr _ (jOf_mem x ne) _ (jOf_mem y ne) _ (jOf_mem w ne)
          · obtain ⟨a1, m1⟩ := jOf_at r1 hx
            exact ⟨refs x hx, by rw [hK]; exact at_dp (a1.mv (.of sub)) (toPs_mem q2 m1).1, (c1 _ (jm x)).1, ct _ (jm x), (c1 _ (jm x)).2⟩
          · have e : vs.map (jOf vs ys) = ys := by
              apply List.ext_getElem?
              intro i
              rw [List.getElem?_map]
              cases q : vs[i]? with
              | none =>
                rw [List.getElem?_eq_none (by rw [← r1.len]; exact List.getElem?_eq_none_iff.mp q)]
                rfl
              | some v =>
                obtain ⟨d, e1, a⟩ := r1.getV q
                rw [e1]
                obtain ⟨a2, m2⟩ := jOf_at r1 (List.mem_of_getElem? q)
                have q3 := (toPs_mem q2 m2).1
                have q4 := (toPs_mem q2 (List.mem_of_getElem? e1)).1
                have z := uniq v (List.mem_of_getElem? q) _ _ a2 a q3 q4
                rw [q4] at z
                exact congrArg some (toP_inj z q4)
            have pm := s2.perm.map (jOf vs ys)
            rw [e] at pm
            have es : us'.map (jOf vs ys) = dsort ys := isort_uniq o (List.pairwise_map.mpr s1) pm
            refine finL sub k ?_ p hp
            rw [← es]
            have : ∀ zs : List V, (∀ z ∈ zs, z ∈ vs) → Ats E F zs (zs.map (jOf vs ys)) := fun zs => by
              induction zs with
              | nil => exact fun _ => .nil
              | cons z zs ih => exact fun hz => .cons (jOf_at r1 (hz z List.mem_cons_self)).1 (ih fun w hw => hz w (List.mem_cons_of_mem _ hw))
            exact this us' fun z hz => s2.perm.mem_iff.mp hz
        · rw [if_neg c] at e; cases e
  unfold fSort at e
  split at e
  · obtain ⟨v, rfl, pv⟩ := pks1 px
    obtain ⟨a, vs, rfl, h, r1⟩ := pv.list sub
    exact main _ a vs rfl (.inl (SqL.of h)) r1 e
  · obtain ⟨v, rfl, pv⟩ := pks1 px
    obtain ⟨a, vs, rfl, h, r1⟩ := pv.tup
    exact main _ a vs rfl (.inr (by rw [hK]; exact sub.tupS h)) r1 e
  · cases e
end
end TL
set_option Elab.async false
set_option linter.all false
set_option maxRecDepth 100000
set_option maxHeartbeats 1000000
/-! Va: further rules: never, chains, zip, constants of the module. -/
namespace TL
open PySem PySem.Spec PyProof.Rows L2 Gd
structure HasT (E : Ev) (mg : Str → Option Value) (base : Heap) (k : Nat) (x : Str) (ps : List Str) (sp : Sp) : Prop where
  ex : ∃ (f : Addr) (fd : FuncData), FnOk E.P E.w E.K mg base (L2.CX E.P E.w) k f fd ps sp ∧ mg x = some (.ref f) ∧ PySem.W.keepIn E.K (.ref f) = true ∧ Binds E.K fd ps []
def sNever : CS := fun _ _ => none
/-- what is never reached -/
def cNever : CE := fun _ _ => none
def aNever : CA := fun _ _ => none
def iNever : CI := fun _ _ => none
theorem ev_never {X : Cx} {E : Ev} {B : Bs} {W : WX} {e : Expr} : PE X e (rE E B W cNever) := ⟨fun pins s σ H Q I ⟨F, as, G, C, r, C', wd, sr, _, e, po⟩ => by cases e⟩
theorem iv_never {X : Cx} {E : Ev} {B : Bs} {W : WX} {tg e : Expr} : PI X tg e (rI E B W iNever) := ⟨fun pins s σ H R I ⟨F, as, G, C, r, C', wd, sr, e, po⟩ => by cases e⟩
theorem sv_never {X : Cx} {E : Ev} {B : Bs} {W : WX} {st : Stmt} : PS X st (rS E B W sNever) := PS.weak ps_never fun D σ H ⟨F, as, G, C, o, G', C', wd, sr, e, po⟩ => by cases e
theorem _root_.L2.Room.u200 {k : Nat} {A : Around} (r : Room k A) : A.units + 200 < cLine := by have := r.un; simp only [cLine] at this ⊢; omega
theorem hU64 {k : Nat} {A : Around} (r : Room k A) : A.units + 64 < cLine := by have := r.u200; omega
theorem hU66 {k : Nat} {A : Around} (r : Room k A) : A.units + 66 < cLine := by have := r.u200; omega
theorem hU100 {k : Nat} {A : Around} (r : Room k A) : A.units + 100 < cLine := by have := r.u200; omega
/-- a constant of the module -/
def GlD (E : Ev) (mg : Str → Option Value) (x : Str) (d : D) : Prop := ∃ v u, mg x = some u ∧ L2.RelV v u ∧ ∀ F, At E F v d
theorem hU {k : Nat} {A : Around} (r : Room k A) : A.units + 10 < cLine := by have := r.u200; omega
def fNeg (d : D) : Option Rd1 := match d with
  | .int i => some (.v (.int (-i)))
  | _ => none
section
variable {X : Cx} {E : Ev} {B : Bs} {W : WX} {pos : Pos} {a b c : Expr} {ca cb cc : CE}
theorem un_negD : UnR X (unaryOp .USub) (rD0 E fNeg) := fun pins s σ H x v Q I rx ⟨F, d, z, sub, px, e, k⟩ => by
  cases d with
  | int i => cases e; exact un_neg pins s σ H x v Q I rx ⟨i, px.int, fin0 sub k (.int _)⟩
  | _ => cases e
theorem rF_outbv {Φ : Ph} {f : Sl → Cs → Option Rd1} {k : Sl → Sv → Cs → Ro} {σ : L2.St} {H : Hp} {Q : VK} (mo : Mo Φ) (h : rF E B W Φ (fun G C => bv (out (f G C) C) (k G)) σ H Q) :
    ∃ F as G C z, Wd E B H F as C ∧ Sr E F as σ G ∧ Φ F as ∧ f G C = some z ∧ ∀ F' H' v, Gr E F H F' H' → R1At E F H F' H' v z → ∃ d, z = .v d ∧ rF E B W (fun F as => Φ F as ∧ SvAt E F as v (.v d)) (fun G C => k G (.v d) C) σ H' Q := by
  obtain ⟨F, as, G, C, r, C', wd, sr, ph, e, po⟩ := h
  have e : bv (out (f G C) C) (k G) = some (r, C') := e
  cases q : f G C with
  | none => rw [q] at e; cases e
  | some z =>
    rw [q] at e
    refine ⟨F, as, G, C, z, wd, sr, ph, q, fun F' H' v g a => ?_⟩
    cases z with
    | n o => cases e
    | v d => exact ⟨d, rfl, F', as, G, C, r, C', wd.gr g, sr.mv g.f (List.prefix_refl _), ⟨mo _ _ _ g.f ph, a⟩, e, po.imp g.f⟩
theorem chain_ {f g : D → D → Option Rd1} {σ : L2.St} {H : Hp} {Q : VK} (h : rE E B W (cChain f g ca cb cc) σ H Q) : tChain (rD E f) (rD E g) (rE E B W ca) (rE E B W cb) (rE E B W cc) σ H Q := by
  refine rF_imp (rF_bv (c := ca) (k := fun G x C1 => bv (cb G C1) fun y C2 => bv (out ((peek C2 x).bind fun dx => (peek C2 y).bind fun dy => f dx dy) C2) fun z C3 => onB z (bv (cc G C3) fun u C4 => out ((peek C4 y).bind fun dy => (peek C4 u).bind fun du => g dy du) C4) (some (.v (.bl false), C3))) mo_tru h) fun v H1 ⟨x, h1⟩ => ?_
  refine rF_imp (rF_bv (c := cb) (k := fun G y C2 => bv (out ((peek C2 x).bind fun dx => (peek C2 y).bind fun dy => f dx dy) C2) fun z C3 => onB z (bv (cc G C3) fun u C4 => out ((peek C4 y).bind fun dy => (peek C4 u).bind fun du => g dy du) C4) (some (.v (.bl false), C3))) (mo_and mo_tru) h1) fun u H2 ⟨y, h2⟩ => ?_
  obtain ⟨F, as, G, C, z, wd, sr, ⟨⟨_, ax⟩, ay⟩, e, k⟩ := rF_outbv (f := fun _ C2 => (peek C2 x).bind fun dx => (peek C2 y).bind fun dy => f dx dy) (k := fun G z C3 => onB z (bv (cc G C3) fun u C4 => out ((peek C4 y).bind fun dy => (peek C4 u).bind fun du => g dy du) C4) (some (.v (.bl false), C3))) (mo_and (mo_and mo_tru)) h2
  cases q1 : peek C x with
  | none => rw [q1] at e; cases e
  | some dx =>
    cases q2 : peek C y with
    | none => rw [q1, q2] at e; cases e
    | some dy =>
      rw [q1, q2] at e
      refine ⟨F, dx, dy, z, wd.sub, peek_pk wd ax q1, peek_pk wd ay q2, e, fun F' H' v' gr a => ?_⟩
      obtain ⟨d, rfl, h3⟩ := k F' H' v' gr a
      obtain ⟨c, ec, h4⟩ := onB_split h3
      cases ec
      refine ⟨c, at_bl a, ?_⟩
      cases c with
      | false => exact rF_v h4 fun _ _ _ => .bl _
      | true =>
        refine rF_imp (rF_bv (c := cc) (k := fun G u C4 => out ((peek C4 y).bind fun dy => (peek C4 u).bind fun du => g dy du) C4) (mo_and (mo_and (mo_and mo_tru))) h4) fun w H4 ⟨u', h5⟩ => ?_
        obtain ⟨F, as, G, C, z, wd, sr, ⟨⟨⟨⟨_, _⟩, ay⟩, _⟩, au⟩, e, k⟩ := rF_out h5
        cases q1 : peek C y with
        | none => rw [q1] at e; cases e
        | some dx =>
          cases q2 : peek C u' with
          | none => rw [q1, q2] at e; cases e
          | some dy =>
            rw [q1, q2] at e
            exact ⟨F, dx, dy, z, wd.sub, peek_pk wd ay q1, peek_pk wd au q2, e, k⟩
theorem ev_chain {op op' : CmpOp} {f g : D → D → Option Rd1} (ho : OpD X E (compareOp op) f) (ho' : OpD X E (compareOp op') g) (ha : PE X a (rE E B W ca)) (hb : PE X b (rE E B W cb)) (hc : PE X c (rE E B W cc)) (hm : lastMarks [op, op'] [b, c] = false := by with_unfolding_all rfl) : PE X (.Compare a [op, op'] [b, c] pos) (rE E B W (cChain f g ca cb cc)) :=
  PE.weak (pe_chain ho ho' ha hb hc hm) fun _ _ _ h => chain_ h
theorem tv_chain {op op' : CmpOp} {f g : D → D → Option Rd1} (ho : OpD X E (compareOp op) f) (ho' : OpD X E (compareOp op') g) (ha : PE X a (rE E B W ca)) (hb : PE X b (rE E B W cb)) (hc : PE X c (rE E B W cc)) (hm : lastMarks [op, op'] [b, c] = false := by with_unfolding_all rfl) : PT X (.Compare a [op, op'] [b, c] pos) (rT E B W (cChain f g ca cb cc)) :=
  PT.weak (pt_chain ho ho' ha hb hc hm) fun _ _ _ h => chain_ (rT_rE h)
/-! ### zip of two lists, or of two tuples -/
def zipD (xs ys : List D) : List D := (xs.zip ys).map fun p => .pr [p.1, p.2]
def iZip (a b : CE) : CI := fun G C => match a G C with
  | some (.ex e, C1) => some (.ex e, C1)
  | some (.v x, C1) => match b G C1 with
    | some (.ex e, C2) => some (.ex e, C2)
    | some (.v y, C2) => match x, y with
      | .lst xs, .lst ys => some (.ok (zipD xs ys), C2)
      | .tup xs, .tup ys => some (.ok (zipD xs ys), C2)
      | _, _ => none
    | _ => none
  | _ => none
end
end TL
set_option Elab.async false
set_option linter.all false
set_option maxRecDepth 100000
set_option maxHeartbeats 1000000
/-! Vb: zip; dicts walked: keys, values, items. -/
namespace TL
open PySem PySem.Spec PyProof.Rows L2 Gd
section
variable {E : Ev} {F : Hp}
theorem jok_zip {a b : Addr} {xs ys : List V} {ds es : List D} (h1 : SqL E.K F a xs) (h2 : SqL E.K F b ys) (r1 : Ats E F xs ds) (r2 : Ats E F ys es) : JOk E (Itz E.K a b) F (zipD ds es) := fun F2 H i s sub => by
  have g1 : SqL E.K H a xs := sub.seq (s.seq h1)
  have g2 : SqL E.K H b ys := sub.seq (s.seq h2)
  have l1 := r1.len
  have l2 := r2.len
  have lz : (zipD ds es).length = min ds.length es.length := by unfold zipD; rw [List.length_map, List.length_zip]
  refine ⟨fun hi => ⟨⟨xs, ys, xs[i]'(by omega), ys[i]'(by omega), g1, g2, List.getElem?_eq_getElem _, List.getElem?_eq_getElem _⟩, ?_⟩, fun hi => ⟨xs, ys, g1, g2, by omega⟩⟩
  rintro x H' ⟨T, u, v, rfl, hT, rfl, z1, z2⟩
  obtain ⟨d, e1, a1⟩ := r1.getV (z1 xs g1)
  obtain ⟨e, e2, a2⟩ := r2.getV (z2 ys g2)
  have gr : Gr E F2 H (upd F2 T (.tup [u, v])) (upd H T (.tup [u, v])) := Gr.newF sub hT
  refine ⟨.pr [d, e], _, ?_, gr, .pr (.inl (.inl upd_same)) (.cons ((a1.mv s).mv gr.f) (.cons ((a2.mv s).mv gr.f) .nil))⟩
  unfold zipD
  rw [List.getElem?_map, List.getElem?_zip_eq_some (z := (d, e)) |>.mpr ⟨e1, e2⟩]
  rfl
theorem jok_zipT {a b : Addr} {xs ys : List V} {ds es : List D} (h1 : SqT E.K F a xs) (h2 : SqT E.K F b ys) (r1 : Ats E F xs ds) (r2 : Ats E F ys es) : JOk E (RZ.ItzT E.K a b) F (zipD ds es) := fun F2 H i s sub => by
  have g1 : SqT E.K H a xs := sub.tupS (s.tupS h1)
  have g2 : SqT E.K H b ys := sub.tupS (s.tupS h2)
  have l1 := r1.len
  have l2 := r2.len
  have lz : (zipD ds es).length = min ds.length es.length := by unfold zipD; rw [List.length_map, List.length_zip]
  refine ⟨fun hi => ⟨⟨xs, ys, xs[i]'(by omega), ys[i]'(by omega), g1, g2, List.getElem?_eq_getElem _, List.getElem?_eq_getElem _⟩, ?_⟩, fun hi => ⟨xs, ys, g1, g2, by omega⟩⟩
  rintro x H' ⟨T, u, v, rfl, hT, rfl, z1, z2⟩
  obtain ⟨d, e1, a1⟩ := r1.getV (z1 xs g1)
  obtain ⟨e, e2, a2⟩ := r2.getV (z2 ys g2)
  have gr : Gr E F2 H (upd F2 T (.tup [u, v])) (upd H T (.tup [u, v])) := Gr.newF sub hT
  refine ⟨.pr [d, e], _, ?_, gr, .pr (.inl (.inl upd_same)) (.cons ((a1.mv s).mv gr.f) (.cons ((a2.mv s).mv gr.f) .nil))⟩
  unfold zipD
  rw [List.getElem?_map, List.getElem?_zip_eq_some (z := (d, e)) |>.mpr ⟨e1, e2⟩]
  rfl
end
section
variable {X : Cx} {E : Ev} {B : Bs} {W : WX} {a b : Expr} {ca cb : CE}
/-- two expressions walked: their values -/
def i2 (f : D → D → Option (List D)) (a b : CE) : CI := fun G C => match a G C with
  | some (.ex e, C1) => some (.ex e, C1)
  | some (.v x, C1) => match b G C1 with
    | some (.ex e, C2) => some (.ex e, C2)
    | some (.v y, C2) => (f x y).map fun ds => (.ok ds, C2)
    | _ => none
  | _ => none
theorem rI_two {f : D → D → Option (List D)} {σ : L2.St} {H : Hp} {R : It → Hp → Prop} (h : rI E B W (i2 f ca cb) σ H R) : rE E B W ca σ H fun v H1 => ∃ dx, rE E B W cb σ H1 fun u H2 => ∃ F as C ds dy, Wd E B H2 F as C ∧ At E F v dx ∧ At E F u dy ∧ f dx dy = some ds ∧ ∀ J, JOk E J F ds → R J H2 := by
  obtain ⟨F, as, G, C, r, C', wd, sr, q, po⟩ := h
  unfold i2 at q
  cases q1 : ca G C with
  | none => simp only [q1] at q; cases q
  | some p =>
    obtain ⟨x, C1⟩ := p
    simp only [q1] at q
    refine ⟨F, as, G, C, x, C1, wd, sr, trivial, q1, fun F' H' s w => ?_⟩
    cases x with
    | c k => cases q
    | n o => cases q
    | ex er => cases q; exact fun cls dx a => po F' H' cls dx s w a
    | v d =>
      intro v av
      simp only at q
      cases q2 : cb G C1 with
      | none => simp only [q2] at q; cases q
      | some p2 =>
        obtain ⟨y, C2⟩ := p2
        simp only [q2] at q
        refine ⟨d, F', as, G, C1, y, C2, w, sr.mv s (List.prefix_refl _), trivial, q2, fun F2 H2 s2 w2 => ?_⟩
        cases y with
        | c k => cases q
        | n o => cases q
        | ex er => cases q; exact fun cls dx a => po F2 H2 cls dx (s.tr s2) w2 a
        | v e =>
          intro u au
          simp only at q
          cases q3 : f d e with
          | none => rw [q3] at q; cases q
          | some ds =>
            rw [q3] at q
            cases q
            exact ⟨F2, as, _, ds, e, w2, av.mv s2, au, q3, fun J jo => po F2 H2 J (s.tr s2) w2 jo⟩
def fZip (x y : D) : Option (List D) := match x, y with
  | .lst xs, .lst ys => some (zipD xs ys)
  | .tup xs, .tup ys => some (zipD xs ys)
  | _, _ => none
theorem iv_zip {p pos tpos : Pos} {elts : List Expr} {kk : Nat} (hK : X.K = E.K) (hg : Gl X "zip") (hm : X.mg "zip" = none) (ha : PE X a (rE E B W ca)) (hb : PE X b (rE E B W cb))
    (hs : starEach [a, b] X.env = (false, eval a X.env) :: starEach [b] X.env := by rfl) (hs2 : starEach [b] X.env = (false, eval b X.env) :: starEach [] X.env := by rfl) (hpl : (backTo pos (starEach [b] X.env)).any (·.1) = false := by rfl) : PI X (.Tuple elts kk tpos) (.Call (.Name "zip" p) [a, b] [] pos) (rI E B W (i2 fZip ca cb)) :=
  PI.weak (RZ.pi_zipA hg hm (pa_cons ha (pa_cons hb pa_nil hs2) hs) hs hpl) fun σ H R h => rF_imp (rI_two h) fun v H1 ⟨dx, hh1⟩ => rF_imp hh1 fun u H2 ⟨F, as, C, ds, dy, wd, a1, a2, e, k⟩ => by
    clear hh1
    cases dx with
    | lst xs =>
      cases dy with
      | lst ys =>
        cases e
        cases a1 with
        | lst h1 r1 =>
          cases a2 with
          | lst h2 r2 => exact ⟨_, _, _, _, rfl, .inl ⟨by rw [hK]; exact wd.sub.seq (SqL.of h1), by rw [hK]; exact wd.sub.seq (SqL.of h2), by rw [hK]; exact k _ (jok_zip (SqL.of h1) (SqL.of h2) r1 r2)⟩⟩
      | _ => cases e
    | tup xs =>
      cases dy with
      | tup ys =>
        cases e
        cases a1 with
        | tup h1 r1 =>
          cases a2 with
          | tup h2 r2 => exact ⟨_, _, _, _, rfl, .inr ⟨by rw [hK]; exact wd.sub.tupS h1, by rw [hK]; exact wd.sub.tupS h2, by rw [hK]; exact k _ (jok_zipT h1 h2 r1 r2)⟩⟩
      | _ => cases e
    | _ => cases e
end
/-! ### dicts walked: the dict is locked for good -/
def LkTo (H : Hp) (d : Addr) (kvs : List (Key × V)) (o : Obj) (H2 : Hp) : Prop := (H2 = H ∧ H d = some (.frz o (.dK kvs))) ∨ (H d = some (.dK kvs) ∧ H2 = upd H d (.frz o (.dK kvs)))
theorem LkTo.at {H : Hp} {d : Addr} {kvs : List (Key × V)} {o : Obj} {H2 : Hp} (h : LkTo H d kvs o H2) : H2 d = some (.frz o (.dK kvs)) := by
  rcases h with ⟨rfl, h⟩ | ⟨_, rfl⟩
  · exact h
  · exact upd_same
def tLk (td : TE) : TE := fun σ H Q => td σ H fun x H1 => ∃ d kvs, x = .ref d ∧ Rd H1 d (.dK kvs) ∧ ∀ o H2, LkTo H1 d kvs o H2 → Q x H2
theorem pe_lk {X : Cx} {e : Expr} {td : TE} (he : PE X e td) : PE X e (tLk td) := ⟨fun pins s σ H Q I h => by
  refine thn (he.run pins s σ H _ I h) fun u s1 ⟨x, H1, I1, rx, d, kvs, ex, hd, q⟩ => ?_
  rcases hd with hd | ⟨o, hd⟩
  · obtain ⟨od, I2⟩ := I1.lock hd (by exact trivial)
    exact ⟨x, _, I2, rx, q od _ (.inr ⟨hd, rfl⟩)⟩
  · exact ⟨x, H1, I1, rx, q o H1 (.inl ⟨rfl, hd⟩)⟩⟩
section
variable {E : Ev} {F H : Hp}
theorem Gr.lk {d : Addr} {kvs : List (Key × V)} {o : Obj} {H2 : Hp} (s : Same F H) (hd : Rd F d (.dK kvs)) (l : LkTo H d kvs o H2) : ∃ F2, Gr E F H F2 H2 ∧ F2 d = some (.frz o (.dK kvs)) := by
  rcases l with ⟨rfl, h⟩ | ⟨h, rfl⟩
  · refine ⟨F, Gr.refl s, ?_⟩
    rcases hd with z | ⟨o2, z⟩
    · rw [s _ _ z] at h; cases h
    · rw [s _ _ z] at h; cases h; exact z
  · have fd : F d = some (.dK kvs) := by
      rcases hd with z | ⟨o2, z⟩
      · exact z
      · rw [s _ _ z] at h; cases h
    refine ⟨upd F d (.frz o (.dK kvs)), ⟨fun a u e => ?_, fun a u e => ?_, fun a u e z nt => ?_, fun a u e z => ?_, fun a z => ?_, fun t => tabs_put t h (fun _ z => by cases z) (fun q z => by unfold LamX.CodeO at z; cases z), fun n a u e => ?_⟩, upd_same⟩
    · by_cases q : a = d
      · subst q; rw [upd_same] at e ⊢; exact e
      · rw [upd_ne q] at e ⊢; exact s a u e
    · by_cases q : a = d
      · subst q; rw [fd] at e; cases e; exact .inr ⟨o, .inl ⟨kvs, rfl⟩, upd_same⟩
      · exact .inl (by rw [upd_ne q]; exact e)
    · rw [upd_ne (by rintro rfl; rw [fd] at z; cases z)]; exact e
    · by_cases q : a = d
      · subst q; rw [fd] at z; cases z
      · rw [upd_ne q, z] at e; cases e
    · exact z.upd (by intro _ z; cases z)
    · by_cases q : a = d
      · subst q; rw [upd_same] at e; cases e; exact fun _ z => by cases z
      · rw [upd_ne q] at e; exact n a u e
theorem atk_get : ∀ {kvs : List (Key × V)} {ps : List (D × D)} {i : Nat} {k : Key} {v : V}, Atk E F kvs ps → kvs[i]? = some (k, v) → ∃ e d, ps[i]? = some (e, d) ∧ At E F (kV k) e ∧ At E F v d
  | _, _, _, _, _, .nil, e => by simp at e
  | _, _, 0, _, _, .cons hk h _, e => by cases e; exact ⟨_, _, rfl, hk, h⟩
  | _, _, i + 1, k, v, .cons _ _ r, e => atk_get (i := i) (k := k) (v := v) r (by simpa using e)
def itemsD (ps : List (D × D)) : List D := ps.map fun p => .pr [p.1, p.2]
theorem jok_items {d : Addr} {o : Obj} {kvs : List (Key × V)} {ps : List (D × D)} (h : F d = some (.frz o (.dK kvs))) (r : Atk E F kvs ps) : JOk E (Iti d o kvs) F (itemsD ps) := fun F2 H i s sub => by
  have h2 : H d = some (.frz o (.dK kvs)) := sub _ _ (s.get h lk_frz)
  have l := atk_len r
  have lz : (itemsD ps).length = ps.length := List.length_map ..
  refine ⟨fun hi => ⟨⟨h2, by omega⟩, ?_⟩, fun hi => ⟨h2, by omega⟩⟩
  rintro x H' ⟨T, k, v, hkv, rfl, hT, rfl⟩
  obtain ⟨e, d', e1, a1, a2⟩ := atk_get r hkv
  have gr : Gr E F2 H (upd F2 T (.tup [kV k, v])) (upd H T (.tup [kV k, v])) := Gr.newF sub hT
  refine ⟨.pr [e, d'], _, ?_, gr, .pr (.inl (.inl upd_same)) (.cons ((a1.mv s).mv gr.f) (.cons ((a2.mv s).mv gr.f) .nil))⟩
  unfold itemsD
  rw [List.getElem?_map, e1]
  rfl
theorem jok_keys {d : Addr} {o : Obj} {kvs : List (Key × V)} {ps : List (D × D)} (h : F d = some (.frz o (.dK kvs))) (r : Atk E F kvs ps) : JOk E (Itk d o kvs) F (ps.map (·.1)) := fun F2 H i s sub => by
  have h2 : H d = some (.frz o (.dK kvs)) := sub _ _ (s.get h lk_frz)
  have l := atk_len r
  have lz : (ps.map (·.1)).length = ps.length := List.length_map ..
  refine ⟨fun hi => ⟨⟨h2, by omega⟩, ?_⟩, fun hi => ⟨h2, by omega⟩⟩
  rintro x H' ⟨rfl, k, v, hkv, rfl⟩
  obtain ⟨e, d', e1, a1, a2⟩ := atk_get r hkv
  exact ⟨e, F2, by rw [List.getElem?_map, e1]; rfl, Gr.refl sub, a1.mv s⟩
theorem jok_vals {d : Addr} {o : Obj} {kvs : List (Key × V)} {ps : List (D × D)} (h : F d = some (.frz o (.dK kvs))) (r : Atk E F kvs ps) : JOk E (Itd d o kvs) F (ps.map (·.2)) := fun F2 H i s sub => by
  have h2 : H d = some (.frz o (.dK kvs)) := sub _ _ (s.get h lk_frz)
  have l := atk_len r
  have lz : (ps.map (·.2)).length = ps.length := List.length_map ..
  refine ⟨fun hi => ⟨⟨h2, by omega⟩, ?_⟩, fun hi => ⟨h2, by omega⟩⟩
  rintro x H' ⟨rfl, k, hkv⟩
  obtain ⟨e, d', e1, a1, a2⟩ := atk_get r hkv
  exact ⟨d', F2, by rw [List.getElem?_map, e1]; rfl, Gr.refl sub, a2.mv s⟩
end

section
variable {X : Cx} {E : Ev} {B : Bs} {W : WX} {tg e : Expr} {c : CE}
def i1 (f : D → Option (List D)) (c : CE) : CI := fun G C => match c G C with
  | some (.ex e, C1) => some (.ex e, C1)
  | some (.v d, C1) => (f d).map fun ds => (.ok ds, C1)
  | _ => none
theorem rI_one {f : D → Option (List D)} {σ : L2.St} {H : Hp} {R : It → Hp → Prop} (h : rI E B W (i1 f c) σ H R) : rE E B W c σ H fun v H1 => ∃ F as C ds d, Wd E B H1 F as C ∧ At E F v d ∧ f d = some ds ∧ ∀ F' H' J, Gr E F H1 F' H' → JOk E J F' ds → R J H' := by
  obtain ⟨F, as, G, C, r, C', wd, sr, q, po⟩ := h
  unfold i1 at q
  cases q1 : c G C with
  | none => simp only [q1] at q; cases q
  | some p =>
    obtain ⟨x, C1⟩ := p
    simp only [q1] at q
    refine ⟨F, as, G, C, x, C1, wd, sr, trivial, q1, fun F' H' s w => ?_⟩
    cases x with
    | c k => cases q
    | n o => cases q
    | ex er => cases q; exact fun cls dx a => po F' H' cls dx s w a
    | v d =>
      intro v av
      simp only at q
      cases q3 : f d with
      | none => rw [q3] at q; cases q
      | some ds =>
        rw [q3] at q
        cases q
        exact ⟨F', as, _, ds, d, w, av, q3, fun F2 H2 J g jo => po F2 H2 J (s.tr g.f) (w.gr g) jo⟩
def dicI (f : List (D × D) → List D) (d : D) : Option (List D) := match d with
  | .dic ps => if scK ps = true then some (f ps) else none
  | _ => none
theorem atn_sc0 {F : Hp} {xs : NE} {ps : List (D × D)} (h : Atn E F xs ps) (n : xs ≠ []) (q : scK ps = true) : False := by rw [atn_sc h n] at q; cases q
theorem at_dicK {F : Hp} {v : V} {ps : List (D × D)} (h : At E F v (.dic ps)) (q : scK ps = true) : ∃ a kvs, v = .ref a ∧ Rd F a (.dK kvs) ∧ Atk E F kvs ps := by
  cases h with
  | dic h r => exact ⟨_, _, rfl, h, r⟩
  | dicN h n r => exact (atn_sc0 r n q).elim
theorem dicI_inv {f : List (D × D) → List D} {d : D} {ds : List D} (e : dicI f d = some ds) : ∃ ps, d = .dic ps ∧ scK ps = true ∧ ds = f ps := by
  cases d with
  | dic ps =>
    have e : (if scK ps = true then some (f ps) else none) = some ds := e
    by_cases h : scK ps = true
    · rw [if_pos h] at e; cases e; exact ⟨ps, rfl, h, rfl⟩
    · rw [if_neg h] at e; cases e
  | _ => cases e
theorem lk_walk {f : List (D × D) → List D} {σ : L2.St} {H : Hp} {R : It → Hp → Prop} {mk : Addr → Obj → List (Key × V) → It} (jk : ∀ {F : Hp} {d : Addr} {o : Obj} {kvs : List (Key × V)} {ps : List (D × D)}, F d = some (.frz o (.dK kvs)) → Atk E F kvs ps → JOk E (mk d o kvs) F (f ps))
    (h : rI E B W (i1 (dicI f) c) σ H R) : tLk (rE E B W c) σ H fun x H1 => ∃ d o kvs, x = .ref d ∧ H1 d = some (.frz o (.dK kvs)) ∧ R (mk d o kvs) H1 := rF_imp (rI_one h) fun v H1 ⟨F, as, C, ds, d, wd, a, e, k⟩ => by
  obtain ⟨ps, rfl, q, rfl⟩ := dicI_inv e
  obtain ⟨b, kvs, rfl, hd, r⟩ := at_dicK a q
  refine ⟨b, kvs, rfl, (Sm.of wd.sub).rd hd, fun o H2 l => ?_⟩
  obtain ⟨F2, gr, fd⟩ := Gr.lk (E := E) wd.sub hd l
  exact ⟨b, o, kvs, rfl, l.at, k F2 H2 _ gr (jk fd (r.mv gr.f))⟩
theorem iv_items {elts : List Expr} {kk : Nat} {tpos apos cpos : Pos} (he : PE X e (rE E B W c)) (hbase : attributeBase e "items" X.env (eval e X.env) = eval e X.env := by rfl) (hline : (apos.endLine == cpos.line) = true := by rfl) :
    PI X (.Tuple elts kk tpos) (.Call (.Attribute e "items" apos) [] [] cpos) (rI E B W (i1 (dicI itemsD) c)) := PI.weak (pi_items (pe_lk he) hbase hline) fun σ H R h => lk_walk jok_items h
theorem iv_vals {apos cpos : Pos} (he : PE X e (rE E B W c)) (hbase : attributeBase e "values" X.env (eval e X.env) = eval e X.env := by rfl) (hline : (apos.endLine == cpos.line) = true := by rfl) :
    PI X tg (.Call (.Attribute e "values" apos) [] [] cpos) (rI E B W (i1 (dicI fun ps => ps.map (·.2)) c)) := PI.weak (pi_values (pe_lk he) hbase hline) fun σ H R h => lk_walk jok_vals h
/-- a dict's keys -/
theorem iv_keys (he : PE X e (rE E B W c)) : PI X tg e (rI E B W (i1 (dicI fun ps => ps.map (·.1)) c)) := PI.weak (pi_keys (pe_lk he)) fun σ H R h => by
  have z := lk_walk jok_keys h
  obtain ⟨F, as, G, C, r, C', wd, sr, ph, e, po⟩ := z
  refine ⟨F, as, G, C, r, C', wd, sr, ph, e, .of (fun e z F' H' s w cls dx a => by subst z; exact po.ex s w a) fun F' H' v s w ne a => ?_⟩
  obtain ⟨d, kvs, ev, hd, k⟩ := po.back ne s w a
  refine ⟨d, kvs, ev, hd, fun o H2 l => ?_⟩
  obtain ⟨d', o', kvs', e1, e2, e3⟩ := k o H2 l
  exact ⟨d', o', e1, .inl ⟨kvs', e2, e3⟩⟩
/-- what stands in the for: a list, a tuple, a text, a dict -/
def items2 : D → Option (List D)
  | .dic ps => if scK ps = true then some (ps.map (·.1)) else none
  | d => items d
def iAny (c : CE) : CI := i1 items2 c
theorem iv_any (hK : X.K = E.K) (he : PE X e (rE E B W c)) : PI X tg e (rI E B W (iAny c)) := PI.weak (PI.or (iv_seq hK he) (iv_keys he)) fun σ H R h => by
  obtain ⟨F, as, G, C, r, C', wd, sr, q, po⟩ := h
  unfold iAny i1 at q
  cases q1 : c G C with
  | none => simp only [q1] at q; cases q
  | some p =>
    obtain ⟨x, C1⟩ := p
    simp only [q1] at q
    cases x with
    | c k => cases q
    | n o => cases q
    | ex er => cases q; exact .inl ⟨F, as, G, C, .ex er, C', wd, sr, by unfold iSeq; simp only [q1], po⟩
    | v d =>
      simp only at q
      by_cases hd : ∃ ps, d = .dic ps
      · obtain ⟨ps, rfl⟩ := hd
        exact .inr ⟨F, as, G, C, r, C', wd, sr, by unfold i1; simp only [q1]; exact q, po⟩
      · refine .inl ⟨F, as, G, C, r, C', wd, sr, ?_, po⟩
        unfold iSeq
        simp only [q1]
        cases d with
        | dic ps => exact absurd ⟨ps, rfl⟩ hd
        | _ => exact q
end
end TL
set_option Elab.async false
set_option linter.all false
set_option maxRecDepth 100000
set_option maxHeartbeats 1000000
/-! Vc: dict comprehensions with keys of either kind. -/
namespace TL
open PySem PySem.Spec PyProof.Rows L2 Gd SrtO PySem.SeqAt
theorem nd_dictSet {X : Cx} {A : Around} {pins : List (Addr × Obj)} {σ : L2.St} {H : Hp} {s : Shared} {E : Value → Shared → Prop} {a b : Addr} {xs : NE} {k : NestedKey} {v : V} {u : Value} {Q : Unit → Shared → Prop} (hu : A.units + 10 < cLine) (I : Inv X pins σ H s) (e : IsN X.w H a xs) (hk : KOk X.prog X.w s.heap xs) (kb : (nestedKind X.prog X.w).is s.heap k b) (rv : RelV v u) (hz : xs.length < sizeLine)
    (h : ∀ s', Inv X pins σ (upd H a (NDicO X.w a (nPut xs k b v))) s' → Q () s') : wpAny (model X.prog X.w) A (dictSet a (.ref b) u) Q E s := by
  have R := e.ok I.hok
  obtain ⟨vs, r, d⟩ := nd_of I (.inl e) hk
  have hl : xs.length = vs.length := Paired.length r
  refine wpAny_dictSet_heap (hsz := by omega) (knd := nestedKind X.prog X.w) (by show A.units + 8 < cLine; omega) kb d fun h' dd' hs => h _ ?_
  obtain ⟨q, es, ep, hq, h2, h3, h4, _, h5⟩ := dd'
  have mu : Mut (H a) := by
    rcases e with e | ⟨_, e⟩ <;> rw [e] <;> exact True.intro
  refine d_write I mu hs ⟨q, hq⟩ (nDic_new ?_)
  have key : NRel (nPut xs k b v) (storedH vs k b u) := by
    have c2 := nrel_any k r
    rw [at_any] at c2
    unfold nPut
    by_cases c : (xs.any fun p => decide (p.1 = k)) = true
    · rw [if_pos c]
      rw [c] at c2
      cases z : atKey vs k with
      | none => rw [z] at c2; cases c2
      | some w => rw [storedH_old z]; exact nrel_map rv r
    · rw [if_neg c]
      cases z : atKey vs k with
      | some w => rw [z] at c2; exact absurd c2.symm c
      | none => rw [storedH_new z]; exact paired_app r (.cons ⟨rfl, rfl, rv⟩ .nil)
  refine ⟨⟨q, es, ep, hq, h2, h3, ?_⟩, by rw [← nrel_keys key]; exact h5, R.lo, Nat.le_trans nPut_len hz⟩
  rw [h4]
  exact vals_nrow key
/-- a store under a key, of either kind -/
abbrev SD := Addr → V → V → Hp → (Hp → Prop) → Prop
def DSet (X : Cx) (S : SD) : Prop := ∀ (pins : List (Addr × Obj)) (s : Shared) (σ : L2.St) (H : Hp) (D : Addr) (y z : V) (u r : Value) (N : Hp → Prop) (Q : Unit → Shared → Prop) (Er : Value → Shared → Prop), Inv X pins σ H s → RelV y u → RelV z r → S D y z H N →
  (∀ s' H', Inv X pins σ H' s' → N H' → Q () s') → wpAny (model X.prog X.w) X.A (dictSet D u r) Q Er s
def tDcS (S : SD) (wi : TI) (g : TG) (tt : TT) (tk tv : TE) (vs : List Nat) : TE := fun σ H Q => wi σ H fun J H1 => ∀ D, H1 D = none → ∃ W : Nat → Nat → Hp → Prop, (∃ m, W 0 m (upd H1 D (.dK []))) ∧ ∀ i m H, W i m H →
  (J.stop i H ∧ Q (.ref D) H) ∨ (J.go i H ∧ ∃ N : Hp → Prop, (∀ H', N H' → ∃ m', m' < m ∧ W (i + 1) m' H') ∧ ∀ x H', J.yld i H x H' → g x (wipe σ vs) H' fun σ2 H2 => wipe σ2 vs = wipe σ vs ∧ tt σ2 H2 fun b H3 =>
    if b = true then tk σ2 H3 fun y H4 => tv σ2 H4 fun z H5 => S D y z H5 N else N H3)
section
variable {X : Cx}
theorem dcS {S : SD} {pins : List (Addr × Obj)} {s : Shared} {σ : L2.St} {H : Hp} {Q : VK} {kx vx tg iter : Expr} {ifs : List Expr} {scope : Scope} {own : List (Str × Nat)} {pos pos' : Pos} {wi : TI} {g : TG} {tt : TT} {tk tv : TE} {use : Option (Value → Sem Unit)} {Qf : Value → Shared → Prop}
    (hc : X.calm = true) (hN : X.N.Nodup) (I : Inv X pins σ H s) (hi : PI X tg iter wi) (ok : BlkOk X.N X.env.scope scope own)
    (hS : ∀ (s : Shared) (H : Hp) (ce : Env) (fp : List Addr), DSet (X.blk s H scope ce fp) S)
    (hg : ∀ (s : Shared) (H : Hp) (C : Addr) (cl : List (Str × Addr)) (fp : List Addr), PG (X.blk s H scope (compEnvC scope cl C X.env) fp) tg g) (ht : ∀ (s : Shared) (H : Hp) (C : Addr) (cl : List (Str × Addr)) (fp : List Addr), PTs (X.blk s H scope (compEnvC scope cl C X.env) fp) ifs tt)
    (hk : ∀ (s : Shared) (H : Hp) (C : Addr) (cl : List (Str × Addr)) (fp : List Addr), PE (X.blk s H scope (compEnvC scope cl C X.env) fp) kx tk)
    (he : ∀ (s : Shared) (H : Hp) (C : Addr) (cl : List (Str × Addr)) (fp : List Addr), PE (X.blk s H scope (compEnvC scope cl C X.env) fp) vx tv) (hs : ∀ x, foldedSetIterable iter X.env x = pure x)
    (h : tDcS S wi g tt tk tv (own.map (·.2)) σ H Q)
    (fin : ∀ D C s' m H', Inv X pins σ H' s' → Q (.ref D) H' → s'.heap.Ns C m → FpOk X pins H' C → compPost (model X.prog X.w) X.A X.xe use Qf (.ref D) C (.ok .next) s') :
    wpAny (model X.prog X.w) X.A (comprehension (.DictComp kx vx [⟨tg, iter, ifs, 0⟩] scope pos) scope X.env pos' newDict false (eval iter X.env) use) Qf X.xe s := by
  have hfree : ∀ y ∈ scope.names, y.2 = .free → ∃ c, X.env.cells.lookup y.1 = some c := fun y hy e => (ok.free y hy e).elim (fun k => I.ok.has _ (.inl k)) fun k => I.ok.has _ (.inr k)
  refine wpAny_comprehension_free (use := use) rfl hs (closure_ok hfree) ok.kind (fun y hy e => by rw [ok.uniq y hy, e])
    (thn (hi.run pins s σ H _ I h) fun xv s1 hx => thn hx fun itv s2 ⟨it, fp, tn, J, H2, e, I2, T, st2, f2, q⟩ => ?_)
  subst e
  refine wpAny_newObj_type (newEnv_comp ?_)
  generalize hD : s2.heap.objs.size = D
  obtain ⟨W, ⟨m0, w0⟩, turn⟩ := q D (I2.hok.fresh (Nat.le_of_eq hD))
  generalize hs3 : ({ s2 with heap := s2.heap.push { cls := .type "dict", data := .dict #[] } } : Shared) = s3
  have I3 : Inv X pins σ (upd H2 D (.dK [])) s3 := by
    rw [← hs3]
    refine I2.laid (t' := s2.toks) (fun b o e => Heap.get?_push_of_some _ e) (Nat.le_of_eq hD) ?_
    rw [← hD]
    exact dk_empty s2.heap I2.big
  have h3 : s3.heap = s2.heap.push { cls := .type "dict", data := .dict #[] } := by rw [← hs3]
  have f3 : ∀ b ∈ fp, FpOk X pins (upd H2 D (.dK [])) b ∧ b < s3.heap.objs.size := fun b hb => by
    have hlt : b < s2.heap.objs.size := let ⟨o, e, _⟩ := T.obj _ _ st2 b hb; Heap.lt_size e
    refine ⟨⟨?_, (f2 b hb).2⟩, by rw [h3, Heap.size_push]; exact Nat.lt_succ_of_lt hlt⟩
    rw [upd_ne (by rw [← hD]; exact Nat.ne_of_lt hlt)]
    exact (f2 b hb).1
  have st3 : tn 0 s3.heap := T.keep _ _ _ st2 fun b _ o e => by rw [h3]; exact Heap.get?_push_of_some _ e
  have I4 := block_start I3 ok hN f3
  have pg := hg s3 (upd H2 D (.dK [])) s3.heap.objs.size (cellsFrom (s3.heap.objs.size + 1) scope.names (cloFrom X.env.cells scope.names [])) fp
  have pt := ht s3 (upd H2 D (.dK [])) s3.heap.objs.size (cellsFrom (s3.heap.objs.size + 1) scope.names (cloFrom X.env.cells scope.names [])) fp
  have pk := hk s3 (upd H2 D (.dK [])) s3.heap.objs.size (cellsFrom (s3.heap.objs.size + 1) scope.names (cloFrom X.env.cells scope.names [])) fp
  have pe := he s3 (upd H2 D (.dK [])) s3.heap.objs.size (cellsFrom (s3.heap.objs.size + 1) scope.names (cloFrom X.env.cells scope.names [])) fp
  have pS := hS s3 (upd H2 D (.dK [])) (compEnvC scope (cellsFrom (s3.heap.objs.size + 1) scope.names (cloFrom X.env.cells scope.names [])) s3.heap.objs.size X.env) fp
  show codeAny _ _ (.compStart (.DictComp kx vx [⟨tg, iter, ifs, 0⟩] scope pos) 0 (.ref it) (.ref D) (compEnvC scope (cellsFrom (s3.heap.objs.size + 1) scope.names (cloFrom X.env.cells scope.names [])) s3.heap.objs.size X.env)) (compPost (model X.prog X.w) X.A X.xe use Qf (.ref D) s3.heap.objs.size) { s3 with heap := pushCells (s3.heap.push { cls := .type "dict", data := .dict #[] }) scope.names }
  have nfp : ∀ b ∈ fp, (upd H2 D (.dK [])) b = none := fun b hb => (f3 b hb).1.1
  generalize hce : compEnvC scope (cellsFrom (s3.heap.objs.size + 1) scope.names (cloFrom X.env.cells scope.names [])) s3.heap.objs.size X.env = ce at I4 pg pt pk pe pS ⊢
  have cL : ce.locals = s3.heap.objs.size := by subst hce; rfl
  generalize hH3 : upd H2 D (.dK []) = H3 at I3 I4 pg pt pk pe pS w0 nfp f3
  generalize hs4 : ({ s3 with heap := pushCells (s3.heap.push { cls := .type "dict", data := .dict #[] }) scope.names } : Shared) = s4 at I4 ⊢
  have st4 : tn 0 s4.heap := T.keep _ _ _ st3 fun b _ o e => by rw [← hs4]; exact pushCells_keeps _ _ _ _ (Heap.get?_push_of_some _ e)
  have stat : ∀ {σ' : L2.St} {H' : Hp} {s' : Shared}, Inv (X.blk s3 H3 scope ce fp) [] σ' H' s' → (∀ b ∈ fp, H' b = none) → ∀ b ∈ fp, FpOk (X.blk s3 H3 scope ce fp) [] H' b := fun {σ' H' s'} I' hn b hb =>
    ⟨hn b hb, (I'.ok.exf b hb).1, I'.ok.exfs b hb, .inl hb, fun x c e => (I'.ok.exf b hb).2 x c e, fun p hp => absurd (show p ∈ ([] : List (Addr × Obj)) ++ [] from hp) (by simp)⟩
  have loop : codeAny (model X.prog X.w) X.A (.compLoop (.DictComp kx vx [⟨tg, iter, ifs, 0⟩] scope pos) 0 (.ref it) (.ref D) ce) (compPost (model X.prog X.w) X.A X.xe use Qf (.ref D) s3.heap.objs.size) s4 := by
    refine compLoop_anyD (fun n s' => ∃ i H', Inv (X.blk s3 H3 scope ce fp) [] (wipe σ (own.map (·.2))) H' s' ∧ tn i s'.heap ∧ (∀ b ∈ fp, H' b = none) ∧ W i n H') ?_ m0 ⟨0, H3, I4, st4, nfp, w0⟩
    rintro n s5 ⟨i, H5, I5, st5, n5, w5⟩
    rcases turn i n H5 w5 with ⟨stop, qq⟩ | ⟨go, Nx, hNx, step⟩
    · refine thnF (T.done (X.blk s3 H3 scope ce fp) rfl rfl rfl hc i [] s5 _ H5 (fun _ _ => False) I5 (stat I5 n5) st5 stop) fun r s6 ⟨hr, I6⟩ => ?_
      subst hr
      have I7 : Inv X pins σ H5 s6 := I3.call' (ch := fp) I6.os I6.base I6.hok I6.bare fun b hb => ⟨(f3 b hb).1.2.2.2.1, (f3 b hb).1.2.1, (f3 b hb).1.2.2.2.2.1, (f3 b hb).1.2.2.2.2.2⟩
      have nC : H5 s3.heap.objs.size = none := by
        have z : H5 ce.locals = none := I6.free
        rw [cL] at z
        exact z
      obtain ⟨m, hn, _⟩ := I6.loc
      have hn : s6.heap.Ns ce.locals m := hn
      rw [cL] at hn
      exact fin D s3.heap.objs.size s6 m H5 I7 qq hn (I3.fpOk (Nat.le_refl _) nC)
    · refine thnF (T.item (X.blk s3 H3 scope ce fp) rfl rfl rfl hc i [] s5 _ H5 (fun _ _ => False) I5 (stat I5 n5) st5 go) fun r s6 ⟨u, hr, h6⟩ => ?_
      subst hr
      refine thnF h6 fun _ s7 ⟨x, H7, I7, r7, y7, st7, n7⟩ => ?_
      refine thnF (pg.run _ s7 _ H7 x u _ (I7.pinned (stat I7 n7) (T.obj _ _ st7)) r7 (step x H7 y7)) fun _ s8 ⟨σ8, H8, I8, hw8, q8⟩ => ?_
      refine thnF (pt.run _ s8 σ8 H8 _ I8 q8) fun b s9 ⟨H9, I9, q9⟩ => ?_
      have next : ∀ {s' : Shared} {H' : Hp}, Inv (X.blk s3 H3 scope ce fp) ([] ++ pinsAt fp s7.heap) σ8 H' s' → Nx H' → ∃ m, m < n ∧ ∃ i H', Inv (X.blk s3 H3 scope ce fp) [] (wipe σ (own.map (·.2))) H' s' ∧ tn i s'.heap ∧ (∀ b ∈ fp, H' b = none) ∧ W i m H' := fun {s' H'} I' nx => by
        obtain ⟨m', hm, w'⟩ := hNx H' nx
        have pin' : ∀ b ∈ fp, ∀ o, s7.heap.get? b = some o → s'.heap.get? b = some o ∧ H' b = none := fun b hb o e =>
          let z := I'.pin (b, o) (List.mem_append_right _ (List.mem_append_right _ (mem_pinsAt hb e)))
          ⟨z.1, z.2.1⟩
        refine ⟨m', hm, i + 1, H', (I'.unpinned (pins := [])).weak (by rw [← hw8, wipe_length]) (fun j v e => ?_), T.keep _ _ _ st7 fun b hb o e => (pin' b hb o e).1, fun b hb => ?_, w'⟩
        · rw [← hw8] at e
          exact (wipe_some e).1
        · obtain ⟨o, e, _⟩ := T.obj _ _ st7 b hb
          exact (pin' b hb o e).2
      cases b with
      | false => exact next I9 q9
      | true =>
        refine thnF (pk.run _ s9 σ8 H9 _ I9 q9) fun z s10 ⟨yk, H10, I10, r10, q10⟩ => ?_
        refine thnF (pe.run _ s10 σ8 H10 _ I10 q10) fun z2 s11 ⟨yv, H11, I11, r11, st⟩ => ?_
        exact pS _ s11 σ8 H11 D yk yv z z2 Nx _ _ I11 r10 r11 st fun s12 H12 I12 nx => next I12 nx
  exact codeAny_compStart_dict loop (T.self X.A 0 _ _ _ st4 loop)
theorem pe_dcS {S : SD} {kx vx tg iter : Expr} {ifs : List Expr} {scope : Scope} {own : List (Str × Nat)} {pos : Pos} {wi : TI} {g : TG} {tt : TT} {tk tv : TE} (hc : X.calm = true) (hN : X.N.Nodup) (hi : PI X tg iter wi) (ok : BlkOk X.N X.env.scope scope own)
    (hS : ∀ (s : Shared) (H : Hp) (ce : Env) (fp : List Addr), DSet (X.blk s H scope ce fp) S)
    (hg : ∀ (s : Shared) (H : Hp) (C : Addr) (cl : List (Str × Addr)) (fp : List Addr), PG (X.blk s H scope (compEnvC scope cl C X.env) fp) tg g) (ht : ∀ (s : Shared) (H : Hp) (C : Addr) (cl : List (Str × Addr)) (fp : List Addr), PTs (X.blk s H scope (compEnvC scope cl C X.env) fp) ifs tt)
    (hk : ∀ (s : Shared) (H : Hp) (C : Addr) (cl : List (Str × Addr)) (fp : List Addr), PE (X.blk s H scope (compEnvC scope cl C X.env) fp) kx tk)
    (he : ∀ (s : Shared) (H : Hp) (C : Addr) (cl : List (Str × Addr)) (fp : List Addr), PE (X.blk s H scope (compEnvC scope cl C X.env) fp) vx tv) (hs : ∀ x, foldedSetIterable iter X.env x = pure x := by intro _; rfl) :
    PE X (.DictComp kx vx [⟨tg, iter, ifs, 0⟩] scope pos) (tDcS S wi g tt tk tv (own.map (·.2))) := by
  refine ⟨fun pins s σ H Q I h => ?_⟩
  rw [arm_eval_DictComp]
  refine dcS hc hN I hi ok hS hg ht hk he hs h fun D C s' m H' I' q hn f => ⟨m, hn, fun h'' sb => ?_⟩
  obtain ⟨f0, f1, f2, f3, f4, f5⟩ := f
  exact ⟨.ref D, H', I'.turned (t' := s'.toks) (fun b o hb e => (sb.2 b hb).trans e) f0 f1 f3 f4 f5, rfl, q⟩
end
end TL
set_option Elab.async false
set_option linter.all false
set_option maxRecDepth 100000
set_option maxHeartbeats 1000000
/-! Vd: dict comprehensions over trees. -/
namespace TL
open PySem PySem.Spec PyProof.Rows L2 Gd
def SDt (P : Program) (w : World) (K : PySem.W.Frag) : SD := fun D y z H N => (∃ kvs k, y = kV k ∧ H D = some (.dK kvs) ∧ kvs.length < sizeLine ∧ N (upd H D (.dK (putK kvs k z)))) ∨
  ∃ b xs k, y = .ref b ∧ IsN w H D xs ∧ xs.length < sizeLine ∧ (∀ (X : Cx) pins s σ, X.prog = P → X.w = w → X.K = K → Inv X pins σ H s → KOk P w s.heap xs ∧ (nestedKind P w).is s.heap k b) ∧ N (upd H D (NDicO w D (nPut xs k b z)))
theorem dset_t {X : Cx} (hu : X.A.units + 10 < cLine) : DSet X (SDt X.prog X.w X.K) := fun pins s σ H D y z u r N Q Er I ry rz h k => by
  rcases h with ⟨kvs, key, rfl, hD, hz, n⟩ | ⟨b, xs, key, rfl, hn, hz, hk, n⟩
  · exact d_dictSet I hD hz ry rz fun s' I' => k s' _ I' n
  · obtain rfl : u = Value.ref b := ry
    obtain ⟨k1, k2⟩ := hk X pins s σ rfl rfl rfl I
    exact nd_dictSet hu I hn k1 k2 rz hz fun s' I' => k s' _ I' n
theorem store_of {E : Ev} {P : Program} {F H : Hp} {Da : Addr} {o : HO} {ps : List (D × D)} {c' : Cell} {y z : V} {di d : D} {N : Hp → Prop} (sub : Same F H) (hD : H Da = some o) (h5 : HoAt E F Da o (.dic ps)) (ai : At E F y di) (av : At E F z d) (q2 : putC (.dic ps) di d = some c') (fin : ∀ o', HoAt E F Da o' c' → N (upd H Da o')) : SDt P E.w E.K Da y z H N := by
  unfold putC at q2
  by_cases few : ps.length < 100000
  · simp only [if_pos few] at q2
    cases q3 : ukey di with
    | none => rw [q3] at q2; cases q2
    | some uk =>
      rw [q3] at q2
      simp only [Option.bind_some] at q2
      cases uk with
      | inl key =>
        simp only at q2
        by_cases sc : scK ps = true
        · rw [if_pos sc] at q2
          cases q2
          rcases h5 with ⟨us, rfl, au⟩ | ⟨xs, rfl, n, au⟩
          · have ek := key_at ai q3
            exact .inl ⟨us, key, ek, hD, by rw [atk_len au]; exact Nat.lt_of_lt_of_le few (by decide), fin _ (.inl ⟨_, rfl, atk_put (by rw [← ek]; exact ai) av au⟩)⟩
          · rw [atn_sc au n] at sc; cases sc
        · rw [if_neg sc] at q2; cases q2
      | inr key =>
        simp only at q2
        by_cases tu : tuK ps = true
        · rw [if_pos tu] at q2
          cases q2
          obtain ⟨b, rfl, kq⟩ := at_tkey ai q3
          have main : ∀ (xs : NE), IsN E.w H Da xs → Atn E F xs ps → xs.length = ps.length → SDt P E.w E.K Da (.ref b) z H N := fun xs hn au hl => by
            refine .inr ⟨b, xs, key, rfl, hn, by rw [hl]; exact Nat.lt_of_lt_of_le few (by decide), fun X pins s σ hP hw hK I => ?_, fin _ (.inr ⟨_, rfl, ?_, atn_put ai kq av au⟩)⟩
            · rw [← hP, ← hw]
              exact ⟨atn_kok hK I sub au, atn_keys hK I sub ai kq⟩
            · unfold nPut
              split
              · intro z
                rename_i c
                have z2 : xs = [] := by simpa using z
                subst z2
                cases c
              · simp
          rcases h5 with ⟨us, rfl, au⟩ | ⟨xs, rfl, n, au⟩
          · have pn : ps = [] := by
              by_cases pn : ps = []
              · exact pn
              · rw [atk_tu au pn] at tu; cases tu
            subst pn
            cases au
            exact main [] (.inr ⟨rfl, hD⟩) .nil rfl
          · exact main xs (.inl hD) au (atn_len au)
        · rw [if_neg tu] at q2; cases q2
  · simp only [if_neg few] at q2
    cases q2
theorem putC_dic {ps : List (D × D)} {i v : D} {c : Cell} (h : putC (.dic ps) i v = some c) : ∃ qs, c = .dic qs := by
  unfold putC at h
  by_cases few : ps.length < 100000
  · simp only [if_pos few] at h
    cases q3 : ukey i with
    | none => rw [q3] at h; cases h
    | some uk =>
      rw [q3] at h
      simp only [Option.bind_some] at h
      cases uk with
      | inl k => simp only at h; by_cases sc : scK ps = true
                 · rw [if_pos sc] at h; cases h; exact ⟨_, rfl⟩
                 · rw [if_neg sc] at h; cases h
      | inr k => simp only at h; by_cases sc : tuK ps = true
                 · rw [if_pos sc] at h; cases h; exact ⟨_, rfl⟩
                 · rw [if_neg sc] at h; cases h
  · simp only [if_neg few] at h
    cases h
def dicOf : Option Cell → Option (List (D × D))
  | some (.dic ps) => some ps
  | _ => none
/-- target, test, key, value of a block -/
def lpD (tg : CT) (tt kx vx : CE) : List D → Sl → Cs → List (D × D) → Option (List (D × D) × Cs)
  | [], _, C, acc => some (acc, C)
  | d :: ds, G, C, acc => (tg d G).bind fun G1 => match tt G1 C with
    | some (.v (.bl true), C1) => match kx G1 C1 with
      | some (.v k, C2) => match vx G1 C2 with
        | some (.v v, C3) => (dicOf (putC (.dic acc) k v)).bind fun acc' => lpD tg tt kx vx ds G C3 acc'
        | _ => none
      | _ => none
    | some (.v (.bl false), C1) => lpD tg tt kx vx ds G C1 acc
    | _ => none
def cDc (ci : CI) (tg : CT) (tt kx vx : CE) (vs : List Nat) : CE := fun G C => match ci G C with
  | some (.ok ds, C1) => (lpD tg tt kx vx ds (wipeG G vs) C1 []).map fun p => (.n (.dic p.1), p.2)
  | some (.ex e, C1) => some (.ex e, C1)
  | none => none
section
variable {E : Ev} {B : Bs} {H F : Hp} {as : List Addr} {C : Cs} {p : Addr} {o : HO}
theorem Wd.outN (w : Wd E B H F as C) (fp : F p = none) (np : p ∉ as) (bp : B.H0 p = none) (o' : HO) (hl : H p = none ∨ ∃ o, H p = some o ∧ NT o ∧ ∀ q, o = LamX.CodeO p q → False) (no : NT o' := by intro _ z; cases z) : Wd E B (upd H p o') F as C where
  sub := fun a u e => by rw [upd_ne (by rintro rfl; rw [fp] at e; cases e)]; exact w.sub a u e
  f0 := w.f0
  keep := fun a u e n z nt => by rw [upd_ne (by rintro rfl; rw [bp] at e; cases e)]; exact w.keep a u e n z nt
  th0 := fun a h => (w.th0 a h).upd no
  tab := hl.elim (fun z => w.tab.ext (Same.newG z)) fun ⟨o, z, n1, n2⟩ => tabs_put w.tab z n1 n2
  nt := w.nt
  new := w.new
  len := w.len
  nd := w.nd
  pre := w.pre
  fresh := w.fresh
  there := fun a ha => (w.there a ha).upd no
  at_ := fun k a c e1 e2 => by
    obtain ⟨f, u, h1, h2⟩ := w.at_ k a c e1 e2
    exact ⟨f, u, by rw [upd_ne (by rintro rfl; exact np (List.mem_of_getElem? e1))]; exact h1, h2⟩
end
section
variable {X : Cx} {E : Ev} {B : Bs} {W : WX}
theorem rE_dc {P : Program} {ci : CI} {t : CT} {g : TG} {tt kx vx : CE} {vs : List Nat} {TTr : TT} {TKr TVr : TE} {σ : L2.St} {H : Hp} {Q : VK} (hg : TgOk E g t) (hw : TgW g vs)
    (hTT : ∀ B' σ H Q, rT E B' nev tt σ H Q → TTr σ H Q) (hTK : ∀ B' σ H Q, rE E B' nev kx σ H Q → TKr σ H Q) (hTV : ∀ B' σ H Q, rE E B' nev vx σ H Q → TVr σ H Q)
    (h : rE E B W (cDc ci t tt kx vx vs) σ H Q) : tDcS (SDt P E.w E.K) (rI E B W ci) g TTr TKr TVr vs σ H Q := by
  obtain ⟨F, as, G, C, r, C', wd, sr, _, e, po⟩ := h
  unfold cDc at e
  cases q : ci G C with
  | none => simp only [q] at e; cases e
  | some p =>
    obtain ⟨r1, C1⟩ := p
    simp only [q] at e
    refine ⟨F, as, G, C, r1, C1, wd, sr, q, ?_⟩
    cases r1 with
    | ex er => cases e; exact fun F' H' cls dx s w a => po.ex s w a
    | ok ds =>
      simp only at e
      intro F' H' J s w jo Dd hD
      have fD : F' Dd = none := fresh_F w.sub hD
      have nD : Dd ∉ as := fun z => (w.there Dd z).ne hD
      have bD : B.H0 Dd = none := w.nobase hD
      have f0D : B.F0 Dd = none := w.f0.none fD
      have w0 : Wd E B (upd H' Dd (.dK [])) F' as C1 := w.outN fD nD bD _ (.inl hD)
      have srw := (sr.mv s (List.prefix_refl as)).wipe vs
      cases ql : lpD t tt kx vx ds (wipeG G vs) C1 [] with
      | none => rw [ql] at e; cases e
      | some pl =>
      obtain ⟨l0, Cl⟩ := pl
      rw [ql] at e
      cases e
      let Nx : Nat → Hp → Prop := fun i H => ∃ F C acc o, Wd E B H F as C ∧ Sm F' F ∧ H Dd = some o ∧ HoAt E F Dd o (.dic acc) ∧ F Dd = none ∧ lpD t tt kx vx (ds.drop i) (wipeG G vs) C acc = some (l0, Cl) ∧ PoE E B W F as Cl σ (.n (.dic l0)) Q
      refine ⟨fun i m H => i + m = ds.length ∧ Nx i H, ⟨ds.length, by omega, F', C1, [], _, w0, Sm.refl _, upd_same, .inl ⟨[], rfl, .nil⟩, fD, by rw [List.drop_zero]; exact ql, po.imp s⟩, ?_⟩
      rintro i m H1 ⟨him, F1, C2, acc, o1, w1, s1, hD1, ho1, fD1, e1, po1⟩
      have jj := jo F1 H1 i s1 w1.sub
      by_cases hi : i < ds.length
      · right
        obtain ⟨go, yl⟩ := jj.1 hi
        refine ⟨go, Nx (i + 1), fun H2 z => ⟨m - 1, by omega, by omega, z⟩, fun x H2 y => ?_⟩
        obtain ⟨d, F3, ed, gr, axd⟩ := yl x H2 y
        have w3 := w1.gr gr
        have hD3 : H2 Dd = some o1 := gr.h _ _ hD1 fD1 (nt_ho ho1)
        have fD3 : F3 Dd = none := gr.stay hD1 (nt_ho ho1) fD1
        rw [List.drop_eq_getElem_cons hi] at e1
        have ed2 : ds[i] = d := by
          rw [List.getElem?_eq_getElem hi] at ed
          exact Option.some.inj ed
        rw [ed2] at e1
        unfold lpD at e1
        cases qt : t d (wipeG G vs) with
        | none => rw [qt] at e1; cases e1
        | some G2 =>
          rw [qt] at e1
          simp only [Option.bind_some] at e1
          suffices key : g x (wipe σ vs) H2 (fun σ3 H3 => TTr σ3 H3 fun b H4 => if b = true then TKr σ3 H4 fun y H5 => TVr σ3 H5 fun z H6 => SDt P E.w E.K Dd y z H6 (Nx (i + 1)) else Nx (i + 1) H4) by
            have z := hw _ _ _ _ key
            rw [wipe_wipe] at z
            exact z
          refine hg F3 H2 as (wipe σ vs) (wipeG G vs) G2 x d _ gr.sub axd (srw.mv (s1.tr gr.f) (List.prefix_refl _)) qt fun σ3 sr3 => ?_
          refine hTT ⟨upd B.H0 Dd o1, B.F0, B.own⟩ _ _ _ ?_
          cases qb : tt G2 C2 with
          | none => rw [qb] at e1; cases e1
          | some pb =>
            obtain ⟨rt, C4⟩ := pb
            rw [qb] at e1
            refine ⟨F3, as, G2, C2, rt, C4, w3.side hD3 fD3 nD bD (nt_ho ho1), sr3, qb, ?_⟩
            cases rt with
            | ex er => cases e1
            | c k => cases e1
            | n o => cases e1
            | v db =>
              cases db with
              | bl b =>
                cases b with
                | false =>
                  intro F5 H5 s5 w5
                  obtain ⟨w6, hD5, fD5⟩ := w5.unside (B0 := F) (nt_ho ho1) bD f0D nD
                  exact ⟨F5, C4, acc, o1, w6, (s1.tr gr.f).tr s5, hD5, (ho1.mv gr.f).mv s5, fD5, e1, po1.imp (gr.f.tr s5)⟩
                | true =>
                  intro F5 H5 s5 w5
                  simp only at e1
                  cases qe : kx G2 C4 with
                  | none => rw [qe] at e1; cases e1
                  | some pe =>
                    obtain ⟨re, C6⟩ := pe
                    rw [qe] at e1
                    show TKr σ3 H5 _
                    refine hTK ⟨upd B.H0 Dd o1, B.F0, B.own⟩ _ _ _ ⟨F5, as, G2, C4, re, C6, w5, sr3.mv s5 (List.prefix_refl _), trivial, qe, fun F7 H7 s7 w7 => ?_⟩
                    cases re with
                    | ex er => cases e1
                    | c k => cases e1
                    | n o => cases e1
                    | v dk =>
                      intro v7 a7
                      simp only at e1
                      cases qv : vx G2 C6 with
                      | none => rw [qv] at e1; cases e1
                      | some pv =>
                        obtain ⟨rv, C8⟩ := pv
                        rw [qv] at e1
                        refine hTV ⟨upd B.H0 Dd o1, B.F0, B.own⟩ _ _ _ ⟨F7, as, G2, C6, rv, C8, w7, (sr3.mv s5 (List.prefix_refl _)).mv s7 (List.prefix_refl _), trivial, qv, fun F9 H9 s9 w9 => ?_⟩
                        cases rv with
                        | ex er => cases e1
                        | c k => cases e1
                        | n o => cases e1
                        | v dv =>
                          intro v9 a9
                          simp only at e1
                          cases qp : putC (.dic acc) dk dv with
                          | none => rw [qp] at e1; cases e1
                          | some c' =>
                            obtain ⟨acc', rfl⟩ := putC_dic qp
                            rw [qp] at e1
                            simp only [dicOf, Option.bind_some] at e1
                            obtain ⟨w10, hD9, fD9⟩ := w9.unside (B0 := F) (nt_ho ho1) bD f0D nD
                            have ho9 := ((ho1.mv gr.f).mv s5 |>.mv s7).mv s9
                            refine store_of (N := Nx (i + 1)) w10.sub hD9 ho9 (a7.mv s9) a9 qp fun o' ho' => ?_
                            exact ⟨F9, C8, acc', o', w10.outN fD9 nD bD _ (.inr ⟨o1, hD9, nt_ho ho1, fun q z => nc_ho ho1 z⟩) (nt_ho ho'), (((s1.tr gr.f).tr s5).tr s7).tr s9, upd_same, ho', fD9, e1, po1.imp (((gr.f.tr s5).tr s7).tr s9)⟩
              | _ => cases e1
      · left
        refine ⟨jj.2 (by omega), ?_⟩
        rw [List.drop_eq_nil_of_le (by omega)] at e1
        cases e1
        exact po1.back (fun _ z => by cases z) (Sm.refl _) w1 ⟨Dd, _, rfl, hD1, fD1, nD, bD, ho1⟩
theorem ev_dc {kx vx tg iter : Expr} {ifs : List Expr} {scope : Scope} {own : List (Str × Nat)} {pos : Pos} {ci : CI} {t : CT} {g : TG} {tt ck cv : CE} (hP : X.prog = E.P) (hw' : X.w = E.w) (hK : X.K = E.K) (hu : X.A.units + 10 < cLine) (hc : X.calm = true) (hN : X.N.Nodup) (hi : PI X tg iter (rI E B W ci)) (ok : BlkOk X.N X.env.scope scope own)
    (hg : ∀ (s : Shared) (H : Hp) (C : Addr) (cl : List (Str × Addr)) (fp : List Addr), PG (X.blk s H scope (compEnvC scope cl C X.env) fp) tg g) (tgo : TgOk E g t) (tgw : TgW g (own.map (·.2)))
    (ht : ∀ (s : Shared) (H : Hp) (C : Addr) (cl : List (Str × Addr)) (fp : List Addr), PTs (X.blk s H scope (compEnvC scope cl C X.env) fp) ifs (fun σ H Q => ∃ B', rT E B' nev tt σ H Q))
    (hk : ∀ (s : Shared) (H : Hp) (C : Addr) (cl : List (Str × Addr)) (fp : List Addr), PE (X.blk s H scope (compEnvC scope cl C X.env) fp) kx (fun σ H Q => ∃ B', rE E B' nev ck σ H Q))
    (he : ∀ (s : Shared) (H : Hp) (C : Addr) (cl : List (Str × Addr)) (fp : List Addr), PE (X.blk s H scope (compEnvC scope cl C X.env) fp) vx (fun σ H Q => ∃ B', rE E B' nev cv σ H Q)) (hs : ∀ x, foldedSetIterable iter X.env x = pure x := by intro _; rfl) :
    PE X (.DictComp kx vx [⟨tg, iter, ifs, 0⟩] scope pos) (rE E B W (cDc ci t tt ck cv (own.map (·.2)))) :=
  PE.weak (pe_dcS (S := SDt E.P E.w E.K) hc hN hi ok (fun s H ce fp => by
    have z := dset_t (X := X.blk s H scope ce fp) hu
    have e : SDt (X.blk s H scope ce fp).prog (X.blk s H scope ce fp).w (X.blk s H scope ce fp).K = SDt E.P E.w E.K := by
      show SDt X.prog X.w X.K = _
      rw [hP, hw', hK]
    rw [e] at z
    exact z) hg ht hk he hs) fun _ _ _ h => rE_dc tgo tgw (fun B' _ _ _ z => ⟨B', z⟩) (fun B' _ _ _ z => ⟨B', z⟩) (fun B' _ _ _ z => ⟨B', z⟩) h
end
end TL
set_option Elab.async false
set_option linter.all false
set_option maxRecDepth 100000
set_option maxHeartbeats 1000000
/-! Ve: in of dicts; sorted of dicts and of sets; min of data; index; repetition; dict(..); list(range). -/
namespace TL
open PySem PySem.Spec PyProof.Rows L2 Gd
section
variable {X : Cx} {E : Ev}
/-! ### in, not in -/
def ngB (neg b : Bool) : Bool := if neg = true then !b else b
def fIn2 (neg : Bool) (x y : D) : Option Rd1 := match y with
  | .dic ps => (ukey x).bind fun k => match k with
    | .inl _ => if scK ps = true then some (.v (.bl (ngB neg (dval ps k).isSome))) else none
    | .inr _ => if tuK ps = true then some (.v (.bl (ngB neg (dval ps k).isSome))) else none
  | _ => fIn neg x y
theorem din_main {pins : List (Addr × Obj)} {s : Shared} {σ : L2.St} {H : Hp} {x y : V} {v u : Value} {neg : Bool} {F : Hp} {dx : D} {ps : List (D × D)} {z : Rd1} (hK : X.K = E.K) (hw : X.w = E.w) (I : Inv X pins σ H s) (rx : RelV x v) (ry : RelV y u) (sub : Same F H) (px : Pk E F H x dx) (py : Pk E F H y (.dic ps)) (e : fIn2 neg dx (.dic ps) = some z) :
    ∃ b : Bool, z = .v (.bl (ngB neg b)) ∧ ∃ a, y = .ref a ∧ u = .ref a ∧ ((∃ o, DGet H a x o ∧ o.isSome = b) ∨ ∃ (b2 : Addr) (xs : NE) (key : NestedKey), x = .ref b2 ∧ v = .ref b2 ∧ IsR X.w H a xs ∧ KOk X.prog X.w s.heap xs ∧ (nestedKind X.prog X.w).is s.heap key b2 ∧ (nAt xs key).isSome = b) := by
  obtain ⟨a, rfl, hd⟩ := py.dic sub
  cases (show u = Value.ref a from ry)
  have e : ((ukey dx).bind fun k => match k with
    | .inl _ => if scK ps = true then some (Rd1.v (.bl (ngB neg (dval ps k).isSome))) else none
    | .inr _ => if tuK ps = true then some (.v (.bl (ngB neg (dval ps k).isSome))) else none) = some z := e
  cases q : ukey dx with
  | none => rw [q] at e; cases e
  | some k =>
    rw [q] at e
    simp only [Option.bind_some] at e
    have ax := px.at sub
    cases k with
    | inl key =>
      simp only at e
      by_cases sc : scK ps = true
      · rw [if_pos sc] at e
        cases e
        refine ⟨_, rfl, a, rfl, rfl, .inl ?_⟩
        have ek := key_at ax q
        rcases hd with ⟨vs, hd, r⟩ | ⟨xs, hd, n, r⟩
        · refine ⟨valV vs key, .inl ⟨vs, key, hd, ek, rfl⟩, ?_⟩
          obtain ⟨i1, i2⟩ := atk_val (k := key) r
          cases q2 : dval ps (.inl key) with
          | none => rw [i2 q2]; rfl
          | some d => obtain ⟨w, e1, _⟩ := i1 d q2; rw [e1]; rfl
        · rw [atn_sc r n] at sc; cases sc
      · rw [if_neg sc] at e; cases e
    | inr key =>
      simp only at e
      by_cases tu : tuK ps = true
      · rw [if_pos tu] at e
        cases e
        refine ⟨_, rfl, a, rfl, rfl, .inr ?_⟩
        obtain ⟨b2, rfl, kq⟩ := at_tkey ax q
        cases (show v = Value.ref b2 from rx)
        have fin : ∀ (xs : NE), IsR X.w H a xs → Atn E F xs ps → ∃ (b2' : Addr) (xs : NE) (key' : NestedKey), V.ref b2 = .ref b2' ∧ Value.ref b2 = .ref b2' ∧ IsR X.w H a xs ∧ KOk X.prog X.w s.heap xs ∧ (nestedKind X.prog X.w).is s.heap key' b2' ∧ (nAt xs key').isSome = (dval ps (.inr key)).isSome := fun xs hn r => by
          refine ⟨b2, xs, key, rfl, rfl, hn, atn_kok hK I sub r, atn_keys hK I (Same.refl H) ax kq, ?_⟩
          obtain ⟨i1, i2⟩ := atn_val (k := key) r
          cases q2 : dval ps (.inr key) with
          | none => rw [i2 q2]; rfl
          | some d => obtain ⟨w, e1, _⟩ := i1 d q2; rw [e1]; rfl
        rcases hd with ⟨vs, hd, r⟩ | ⟨xs, hd, n, r⟩
        · have pn : ps = [] := by
            by_cases pn : ps = []
            · exact pn
            · rw [atk_tu r pn] at tu; cases tu
          subst pn
          cases r
          rcases hd with hd | ⟨o, hd⟩
          · exact fin [] (.inl (.inr ⟨rfl, hd⟩)) .nil
          · exact fin [] (.inr (.inl ⟨rfl, o, hd⟩)) .nil
        · exact fin xs (by rw [hw]; exact IsR.rd hd) r
      · rw [if_neg tu] at e; cases e
theorem od_in2 (hK : X.K = E.K) (hw : X.w = E.w) (hu : X.A.units + 66 < cLine) : OpD X E (compareOp .In) (fIn2 false) := fun pins s σ H x y v u Q I rx ry ⟨F, dx, dy, z, sub, px, py, e, k⟩ => by
  by_cases hd : ∃ ps, dy = .dic ps
  · obtain ⟨ps, rfl⟩ := hd
    obtain ⟨b, rfl, a, rfl, rfl, ⟨o, g, ho⟩ | ⟨b2, xs, key, rfl, rfl, h1, h2, h3, h4⟩⟩ := din_main hK hw I rx ry sub px py e
    · exact d_in (by omega) I g rx fun s' I' => ⟨.bl _, H, I', rfl, by rw [ho]; exact fin0 sub k (.bl _)⟩
    · exact nd_in (by omega) I h1 h2 h3 fun t => ⟨.bl _, H, I.tok t, rfl, by rw [h4]; exact fin0 sub k (.bl _)⟩
  · refine od_in hK hu pins s σ H x y v u Q I rx ry ⟨F, dx, dy, z, sub, px, py, ?_, k⟩
    cases dy with
    | dic ps => exact absurd ⟨ps, rfl⟩ hd
    | _ => exact e
theorem od_nin2 (hK : X.K = E.K) (hw : X.w = E.w) (hu : X.A.units + 66 < cLine) : OpD X E (compareOp .NotIn) (fIn2 true) := fun pins s σ H x y v u Q I rx ry ⟨F, dx, dy, z, sub, px, py, e, k⟩ => by
  by_cases hd : ∃ ps, dy = .dic ps
  · obtain ⟨ps, rfl⟩ := hd
    obtain ⟨b, rfl, a, rfl, rfl, ⟨o, g, ho⟩ | ⟨b2, xs, key, rfl, rfl, h1, h2, h3, h4⟩⟩ := din_main hK hw I rx ry sub px py e
    · exact d_notIn (by omega) I g rx fun s' I' => ⟨.bl _, H, I', rfl, by rw [ho]; exact fin0 sub k (.bl _)⟩
    · exact nd_notIn (by omega) I h1 h2 h3 fun t => ⟨.bl _, H, I.tok t, rfl, by rw [h4]; exact fin0 sub k (.bl _)⟩
  · refine od_nin hK hu pins s σ H x y v u Q I rx ry ⟨F, dx, dy, z, sub, px, py, ?_, k⟩
    cases dy with
    | dic ps => exact absurd ⟨ps, rfl⟩ hd
    | _ => exact e
end
/-! ### sorted texts -/
theorem nlt_of {x y : List Nat} (h : ltCps y x = false) : ¬ y < x := fun z => by
  have : ∀ (a b : List Nat), a < b → ltCps a b = true := fun a => by
    induction a with
    | nil => intro b h; cases b with
      | nil => exact absurd h (List.lt_irrefl _)
      | cons c r => rfl
    | cons c r ih =>
      intro b h
      cases b with
      | nil => exact absurd h (List.not_lt_nil _)
      | cons d t =>
        rw [ltCps, Bool.or_eq_true, decide_eq_true_eq, Bool.and_eq_true, beq_iff_eq]
        rcases List.cons_lt_cons_iff.mp h with z | ⟨z1, z2⟩
        · exact .inl z
        · exact .inr ⟨z1, ih t z2⟩
  rw [this y x z] at h
  cases h
theorem ltCps_tr : ∀ x y z : List Nat, ltCps y x = false → ltCps z y = false → ltCps z x = false := fun x y z h1 h2 => by
  cases q : ltCps z x with
  | false => rfl
  | true =>
    exfalso
    have : ∀ (a b : List Nat), ltCps a b = true → a < b := fun a => by
      induction a with
      | nil => intro b h; cases b with
        | nil => cases h
        | cons c r => exact List.nil_lt_cons _ _
      | cons c r ih =>
        intro b h
        cases b with
        | nil => cases h
        | cons d t =>
          rw [ltCps, Bool.or_eq_true, decide_eq_true_eq, Bool.and_eq_true, beq_iff_eq] at h
          rcases h with h | ⟨h1, h2⟩
          · exact List.cons_lt_cons_iff.mpr (.inl h)
          · exact List.cons_lt_cons_iff.mpr (.inr ⟨h1, ih t h2⟩)
    have l := this _ _ q
    have n1 := nlt_of h1
    have n2 := nlt_of h2
    exact n2 (Std.lt_of_lt_of_le l (Std.not_lt.mp n1))
theorem rising_pw' : ∀ (l : List Str) (p : Str), risingS p l = true → (p :: l).Pairwise fun x y => ltCps y.cps.toList x.cps.toList = false
  | [], p, _ => List.pairwise_singleton _ _
  | x :: r, p, h => by
    rw [risingS, Bool.and_eq_true, Bool.not_eq_true'] at h
    have ih := rising_pw' r x h.2
    refine List.pairwise_cons.mpr ⟨fun y hy => ?_, ih⟩
    rcases List.mem_cons.mp hy with e | hy
    · rw [e]; exact h.1
    · exact ltCps_tr _ _ _ h.1 ((List.pairwise_cons.mp ih).1 y hy)
theorem toPs_strs : ∀ ns : List Str, toPs (ns.map D.str) = some (ns.map PyData.str)
  | [] => by simp only [List.map_nil, toPs]
  | n :: ns => by simp only [List.map_cons, toPs, toP, toPs_strs ns]
theorem ord_strs (ns : List Str) : OrdOn dlt (ns.map D.str) := ord_P (toPs_strs ns) (fun p hp => by
    obtain ⟨n, _, rfl⟩ := List.mem_map.mp hp
    rfl) fun p hp q hq => by
    obtain ⟨n, _, rfl⟩ := List.mem_map.mp hp
    obtain ⟨m, _, rfl⟩ := List.mem_map.mp hq
    rfl
theorem sort_strs {ms ns : List Str} (p : ms.Perm ns) (s : sortedS ms = true) : ms.map D.str = dsort (ns.map D.str) := by
  have pw : ms.Pairwise fun x y => ltCps y.cps.toList x.cps.toList = false := by
    cases ms with
    | nil => exact List.Pairwise.nil
    | cons x r => exact rising_pw' r x s
  refine isort_uniq (ord_strs ns) (List.pairwise_map.mpr (pw.imp fun {a b} h => ?_)) (p.map _)
  show ltD (.str b) (.str a) = false
  rw [ltD]
  exact decide_eq_false (nlt_of h)
theorem ats_strs {E : Ev} {F : Hp} : ∀ ns : List Str, Ats E F (ns.map V.str) (ns.map D.str)
  | [] => .nil
  | n :: ns => .cons (.str n) (ats_strs ns)
def strsD : List D → Option (List Str)
  | [] => some []
  | .str i :: r => (strsD r).map (i :: ·)
  | _ => none
theorem strs_at {E : Ev} {F : Hp} : ∀ {vs : List V} {ds : List D} {ns : List Str}, Ats E F vs ds → strsD ds = some ns → vs = ns.map V.str ∧ ds = ns.map D.str
  | _, _, _, .nil, e => by cases e; exact ⟨rfl, rfl⟩
  | _, _, _, .cons (d := d) (ds := ds) h r, e => by
    cases d with
    | str b =>
      have e : (strsD ds).map (b :: ·) = some _ := e
      cases q : strsD ds with
      | none => rw [q] at e; cases e
      | some bs =>
        rw [q] at e
        cases e
        obtain ⟨h1, h2⟩ := strs_at r q
        rw [at_str h, h1, h2]
        exact ⟨rfl, rfl⟩
    | _ => cases e
theorem atk_strs {E : Ev} {F : Hp} : ∀ {vs : List (Key × V)} {ps : List (D × D)} {ns : List Str}, Atk E F vs ps → strsD (ps.map (·.1)) = some ns → vs.map (·.1) = ns.map Sum.inr ∧ ps.map (·.1) = ns.map D.str
  | _, _, _, .nil, e => by cases e; exact ⟨rfl, rfl⟩
  | _, _, _, .cons (k := k) (e := d) (ds := ds) hk h r, e => by
    cases d with
    | str b =>
      have e : (strsD (ds.map (·.1))).map (b :: ·) = some _ := e
      cases q : strsD (ds.map (·.1)) with
      | none => rw [q] at e; cases e
      | some bs =>
        rw [q] at e
        cases e
        obtain ⟨h1, h2⟩ := atk_strs r q
        have ek := at_str hk
        cases k with
        | inl i => cases ek
        | inr x => cases ek; rw [List.map_cons, List.map_cons, List.map_cons, List.map_cons, h1, h2]; exact ⟨rfl, rfl⟩
    | _ => cases e
/-- sorted of a list, a tuple, a dict with texts -/
def fSort2 (ds : List D) : Option Rd1 := match ds with
  | [.dic ps] => (strsD (ps.map (·.1))).bind fun ns => if ns.length < 64 ∧ scK ps = true then some (.n (.lst (dsort (ps.map (·.1))))) else none
  | _ => fSort ds
section
variable {X : Cx} {E : Ev} {B : Bs} {W : WX}
theorem cd_sort2 (hK : X.K = E.K) (hu : X.A.units + 100 < cLine) (hc : X.calm = true) : CallD X E (.builtin "sorted") fSort2 := fun pins s σ H xs us Q I r ⟨F, ds, z, sub, px, e, k⟩ => by
  unfold fSort2 at e
  split at e
  · rename_i ps
    cases q : strsD (ps.map (·.1)) with
    | none => rw [q] at e; cases e
    | some ns =>
      rw [q] at e
      simp only [Option.bind_some] at e
      by_cases c : ns.length < 64 ∧ scK ps = true
      · rw [if_pos c] at e
        cases e
        obtain ⟨v, rfl, pv⟩ := pks1 px
        obtain ⟨a, rfl, ⟨vs, h, r1⟩ | ⟨xs, h, n, r1⟩⟩ := pv.dic sub
        · obtain ⟨h1, h2⟩ := atk_strs r1 q
          refine call_sortedD hc pins s σ H _ us Q I r ⟨a, vs, ns, rfl, h, h1, c.1, fun ys p pm so np => finL sub k ?_ p np⟩
          rw [h2, ← sort_strs pm so]
          exact ats_strs ys
        · have := c.2
          rw [atn_sc r1 n] at this
          cases this
      · rw [if_neg c] at e; cases e
  · exact cd_sort hK hu pins s σ H xs us Q I r ⟨F, ds, z, sub, px, e, k⟩
/-! ### sorted(set(..)) -/
def dedI : List Int → List Int
  | [] => []
  | x :: r => if x ∈ r then dedI r else x :: dedI r
theorem dedI_mem : ∀ (l : List Int) (x : Int), x ∈ dedI l ↔ x ∈ l
  | [], x => Iff.rfl
  | y :: r, x => by
    unfold dedI
    by_cases h : y ∈ r
    · rw [if_pos h, dedI_mem r x, List.mem_cons]
      exact ⟨.inr, fun z => z.elim (fun e => e ▸ h) id⟩
    · rw [if_neg h, List.mem_cons, List.mem_cons, dedI_mem r x]
theorem dedI_nd : ∀ (l : List Int), (dedI l).Nodup
  | [] => List.nodup_nil
  | y :: r => by
    unfold dedI
    by_cases h : y ∈ r
    · rw [if_pos h]; exact dedI_nd r
    · rw [if_neg h, List.nodup_cons]; exact ⟨fun z => h ((dedI_mem r y).mp z), dedI_nd r⟩
def seqD : D → Option (List D)
  | .lst xs => some xs
  | .tup xs => some xs
  | _ => none
/-- the members of a set of ints, in order -/
def fSS (d : D) : Option Rd1 := (seqD d).bind fun xs => (intsD xs).bind fun ns => if ns.length < 64 then some (.n (.lst (dsort ((dedI ns).map D.int)))) else none
def cSS (c : CE) : CE := c1 fSS c
theorem ev_ss {a : Expr} {c : CE} {p p2 pos pos2 : Pos} (hK : X.K = E.K) (hc : X.calm = true) (hg : Gl X "sorted") (hm : X.mg "sorted" = none) (hg2 : Gl X "set") (hm2 : X.mg "set" = none) (ha : PE X a (rE E B W c))
    (na : starEach [a] X.env = (false, eval a X.env) :: starEach [] X.env := by rfl) (nb : starEach [Expr.Call (.Name "set" p2) [a] [] pos2] X.env = (false, eval (Expr.Call (.Name "set" p2) [a] [] pos2) X.env) :: starEach [] X.env := by rfl) (hpl : (backTo pos2 (starEach [] X.env)).any (·.1) = false := by rfl) (hpl2 : (backTo pos (starEach [] X.env)).any (·.1) = false := by rfl) :
    PE X (.Call (.Name "sorted" p) [.Call (.Name "set" p2) [a] [] pos2] [] pos) (rE E B W (cSS c)) := by
  refine PE.weak (pe_callB (cr_sortedSet hc) hg hm (by decide +kernel) (pa_cons (pe_callTy (call_setI hc) hg2 hm2 (by decide +kernel) (pa_cons ha pa_nil na) (he := na) (hpl := hpl)) pa_nil nb) (he := nb) (hpl := hpl2)) fun σ H Q h => ?_
  refine rF_imp (rF_bv (c := c) (k := fun G x C1 => out ((peek C1 x).bind fSS) C1) mo_tru h) fun v H1 ⟨x, h1⟩ => ?_
  obtain ⟨F, as, G, C, z, wd, sr, ⟨_, ax⟩, e, k⟩ := rF_out h1
  cases q1 : peek C x with
  | none => rw [q1] at e; cases e
  | some dx =>
    rw [q1] at e
    have e : fSS dx = some z := e
    unfold fSS at e
    cases q2 : seqD dx with
    | none => rw [q2] at e; cases e
    | some xs =>
      rw [q2] at e
      simp only [Option.bind_some] at e
      cases q3 : intsD xs with
      | none => rw [q3] at e; cases e
      | some ns =>
        rw [q3] at e
        simp only [Option.bind_some] at e
        by_cases c : ns.length < 64
        · rw [if_pos c] at e
          cases e
          have px := peek_pk wd ax q1
          have main : ∀ (a : Addr) (vs : List V), v = .ref a → (SqL X.K H1 a vs ∨ SqT X.K H1 a vs) → Ats E F vs xs → rSetI X.K X.w [v] H1 fun y H2 => rSortedSet X.w [y] H2 Q := fun a vs ev hs r => by
            obtain ⟨rfl, rfl⟩ := ints_at r q3
            refine ⟨a, ns, by rw [ev], hs, by omega, fun p n hn np => ⟨p, _, n, rfl, upd_same, by omega, fun ys p2 pw mem hl np2 => ?_⟩⟩
            have g1 : Gr E F H1 F (upd H1 p (SetO X.w p (fun j => decide (j ∈ ns)) n)) := Gr.newH wd.sub np
            have pm : ys.Perm (dedI ns) := (List.perm_ext_iff_of_nodup (pw.imp fun {a b} h => by omega) (dedI_nd ns)).mpr fun x => by
              rw [mem x, dedI_mem]
              exact decide_eq_true_iff
            have so := sort_ints pm (pw.imp fun {a b} h => by omega)
            refine k F _ (.ref p2) (g1.trans (Gr.newH g1.sub np2)) ⟨p2, _, rfl, ?_, upd_same, fresh_F g1.sub np2, _, rfl, by rw [← so]; exact ats_ints ys⟩
            cases q : H1 p2 with
            | none => rfl
            | some u => rw [Same.newG np _ _ q] at np2; cases np2
          cases dx with
          | lst ys =>
            cases q2
            obtain ⟨a, vs, rfl, hl, r⟩ := px.list wd.sub
            exact main a vs rfl (.inl (SqL.of hl)) r
          | tup ys =>
            cases q2
            obtain ⟨a, vs, rfl, hl, r⟩ := px.tup
            exact main a vs rfl (.inr (by rw [hK]; exact wd.sub.tupS hl)) r
          | _ => cases q2
        · rw [if_neg c] at e; cases e
end
end TL
set_option Elab.async false
set_option linter.all false
set_option maxRecDepth 100000
set_option maxHeartbeats 1000000
/-! Vf: min of data; index; repetition; dict(..); list(range). -/
namespace TL
open PySem PySem.Spec PyProof.Rows L2 Gd PySem.SeqAt PySem.W
def minDD (d : D) (ds : List D) : D := ds.foldl (fun a y => if dataLt (pOf y) (pOf a) = true then y else a) d
theorem minDD_toP : ∀ (ds : List D) (ps : List PyData) (d : D) (p : PyData), toP d = some p → toPs ds = some ps → toP (minDD d ds) = some (minD p ps)
  | [], ps, d, p, h, h2 => by
    simp only [toPs] at h2
    cases h2
    exact h
  | y :: r, ps, d, p, h, h2 => by
    simp only [toPs] at h2
    cases q1 : toP y with
    | none => rw [q1] at h2; cases h2
    | some py =>
      cases q2 : toPs r with
      | none => rw [q1, q2] at h2; cases h2
      | some pr =>
        rw [q1, q2] at h2
        cases h2
        have e1 : pOf y = py := by unfold pOf; rw [q1]; rfl
        have e2 : pOf d = p := by unfold pOf; rw [h]; rfl
        show toP (minDD (if dataLt (pOf y) (pOf d) = true then y else d) r) = some (minD (if dataLt py p then py else p) pr)
        rw [e1, e2]
        by_cases c : dataLt py p = true
        · rw [if_pos c, if_pos c]; exact minDD_toP r pr y py q1 q2
        · rw [if_neg c, if_neg c]; exact minDD_toP r pr d p h q2
def isNoneP : PyData → Bool
  | .none => true
  | _ => false
def mOk (ps : List PyData) : Bool := ps.all (fun x => !isNoneP x && decide (x.depth ≤ 60)) && ps.all fun x => ps.all fun y => alike x y
theorem depthAll_of {ps : List PyData} {n : Nat} : (∀ p ∈ ps, p.depth ≤ n) → PyData.depthAll ps ≤ n := by
  induction ps with
  | nil => intro _; exact Nat.zero_le _
  | cons p r ih =>
    intro h
    rw [PyData.depthAll]
    exact Nat.max_le.mpr ⟨h p List.mem_cons_self, ih fun q hq => h q (List.mem_cons_of_mem _ hq)⟩
theorem mOk_of {ps : List PyData} (h : mOk ps = true) : AlikeAll ps ∧ PyData.depthAll ps ≤ 60 := by
  unfold mOk at h
  simp only [Bool.and_eq_true, List.all_eq_true, Bool.not_eq_true', decide_eq_true_eq] at h
  refine ⟨⟨fun x hx y hy => h.2 x hx y hy, fun x hx e => ?_⟩, depthAll_of fun p hp => (h.1 p hp).2⟩
  have := (h.1 x hx).1
  rw [e] at this
  cases this
def fMin2 (ds : List D) : Option Rd1 := match ds with
  | [.lst (d :: r)] => (toPs (d :: r)).bind fun ps => if mOk ps = true then some (.v (minDD d r)) else none
  | _ => fMin ds
section
variable {X : Cx} {E : Ev} {B : Bs} {W : WX}
theorem at_stay {F : Hp} {v : V} {d : D} (h : At E F v d) : At E F v d := h
theorem cd_min2 (hK : X.K = E.K) (hu : X.A.units + 64 < cLine) (hc : X.calm = true) : CallD X E (.builtin "min") fMin2 := fun pins s σ H xs us Q I r ⟨F, ds, z, sub, px, e, k⟩ => by
  unfold fMin2 at e
  split at e
  · rename_i d rest
    cases q : toPs (d :: rest) with
    | none => rw [q] at e; cases e
    | some ps =>
      rw [q] at e
      simp only [Option.bind_some] at e
      by_cases c : mOk ps = true
      · rw [if_pos c] at e
        cases e
        obtain ⟨v, rfl, pv⟩ := pks1 px
        obtain ⟨a, vs, rfl, hl, r1⟩ := pv.list sub
        obtain ⟨u, rfl, ru⟩ := vals1 r
        cases (show u = Value.ref a from ru)
        obtain ⟨its, rv, pl, hz⟩ := I.list (SqL.of hl)
        have dpa : DpAll X.K H vs ps := by rw [hK]; exact ats_dp (r1.mv (.of sub)) q
        obtain ⟨as, hr⟩ := Dp.readsAll I ps vs its dpa rv
        obtain ⟨ha, hd⟩ := mOk_of c
        have q' := q
        simp only [toPs] at q'
        cases qd : toP d with
        | none => rw [qd] at q'; cases q'
        | some p0 =>
          cases qr : toPs rest with
          | none => rw [qd, qr] at q'; cases q'
          | some pr =>
            rw [qd, qr] at q'
            cases q'
            refine min_list_data (I.ok.hd hc) pl.isList hr ha (by omega) fun i w h' tk bs hi rd hk => ?_
            have hi2 : its[i]? = some w := by simpa using hi
            have il : i < vs.length := by rw [rv.length]; exact (List.getElem?_eq_some_iff.mp hi2).1
            obtain ⟨w', hw', rw'⟩ := rv.get (List.getElem?_eq_getElem il)
            rw [hi2] at hw'
            cases hw'
            obtain ⟨di, e1, a1⟩ := r1.getV (List.getElem?_eq_getElem il)
            have mi := List.mem_of_getElem? e1
            have p1 := (toPs_mem q mi).1
            have I2 : L2.Inv X pins σ H { s with heap := h', toks := tk } := I.kept hk
            obtain ⟨bs2, rd2⟩ := Dp.reads I2 (pOf di) _ w (by rw [hK]; exact at_dp (a1.mv (.of sub)) p1) rw'
            have e2 : pOf di = minD p0 pr := plain_unique _ _ _ _ _ (toP_plain p1) rd2 rd
            have e3 := minDD_toP rest pr d p0 qd qr
            rw [← e2] at e3
            have e4 : minDD d rest = di := toP_inj e3 p1
            refine ⟨_, H, I2, rw', k F H _ (Gr.refl sub) ?_⟩
            show At E F _ (minDD d rest)
            rw [e4]
            exact a1
      · rw [if_neg c] at e; cases e
  · exact cd_min hc pins s σ H xs us Q I r ⟨F, ds, z, sub, px, e, k⟩
/-! ### * -/
def fMul (x y : D) : Option Rd1 := match x, y with
  | .int i, .int j => if (-(2 ^ 64) < i ∧ i < 2 ^ 64) ∨ (-(2 ^ 64) < j ∧ j < 2 ^ 64) then some (.v (.int (i * j))) else none
  | .lst xs, .int k => if -(2 ^ 62) ≤ k ∧ k < 2 ^ 62 ∧ xs.length * k.toNat ≤ 100000 then some (.n (.lst (List.replicate k.toNat xs).flatten)) else none
  | _, _ => none
theorem ats_rep {F : Hp} {vs : List V} {ds : List D} (h : Ats E F vs ds) : ∀ n, Ats E F (List.replicate n vs).flatten (List.replicate n ds).flatten
  | 0 => .nil
  | n + 1 => by
    rw [List.replicate_succ, List.replicate_succ, List.flatten_cons, List.flatten_cons]
    exact h.app (ats_rep h n)
theorem od_mul : OpD X E (binaryOp .Mult) fMul := fun pins s σ H x y v u Q I rx ry ⟨F, dx, dy, z, sub, px, py, e, k⟩ => by
  cases dx with
  | int i =>
    cases dy with
    | int j =>
      have e : (if (-(2 ^ 64) < i ∧ i < 2 ^ 64) ∨ (-(2 ^ 64) < j ∧ j < 2 ^ 64) then some (Rd1.v (.int (i * j))) else none) = some z := e
      by_cases c : (-(2 ^ 64) < i ∧ i < 2 ^ 64) ∨ (-(2 ^ 64) < j ∧ j < 2 ^ 64)
      · rw [if_pos c] at e
        cases e
        exact op_mul pins s σ H x y v u Q I rx ry ⟨i, j, px.int, py.int, c, fin0 sub k (.int _)⟩
      · rw [if_neg c] at e; cases e
    | _ => cases e
  | lst xs =>
    cases dy with
    | int j =>
      have e : (if -(2 ^ 62) ≤ j ∧ j < 2 ^ 62 ∧ xs.length * j.toNat ≤ 100000 then some (Rd1.n (.lst (List.replicate j.toNat xs).flatten)) else none) = some z := e
      by_cases c : -(2 ^ 62) ≤ j ∧ j < 2 ^ 62 ∧ xs.length * j.toNat ≤ 100000
      · rw [if_pos c] at e
        cases e
        obtain ⟨a, vs, rfl, hl, r1⟩ := px.list sub
        exact op_rep pins s σ H _ y v u Q I rx ry ⟨a, j, vs, rfl, py.int, hl, by omega, by omega, by rw [r1.len]; exact line5 c.2.2, finL sub k (ats_rep r1 _)⟩
      · rw [if_neg c] at e; cases e
    | _ => cases e
  | _ => cases dy <;> cases e
/-! ### dict(d), list(range(n)) -/
def fDict (ds : List D) : Option Rd1 := match ds with
  | [.dic ps] => if scK ps = true then some (.n (.dic ps)) else none
  | _ => none
theorem cd_dict : CallD X E (.type "dict") fDict := fun pins s σ H xs us Q I r ⟨F, ds, z, sub, px, e, k⟩ => by
  unfold fDict at e
  split at e
  · rename_i ps
    by_cases c : scK ps = true
    · rw [if_pos c] at e
      cases e
      obtain ⟨v, rfl, pv⟩ := pks1 px
      obtain ⟨a, rfl, ⟨vs, h, r1⟩ | ⟨xs, h, n, r1⟩⟩ := pv.dic sub
      · exact call_dictD pins s σ H _ us Q I r ⟨a, vs, rfl, h, fun p hp => k F _ _ (Gr.newH sub hp) ⟨p, _, rfl, hp, upd_same, fresh_F sub hp, .inl ⟨vs, rfl, r1⟩⟩⟩
      · rw [atn_sc r1 n] at c; cases c
    · rw [if_neg c] at e; cases e
  · cases e
def fLrg (d : D) : Option Rd1 := match d with
  | .int j => if -1000 ≤ j ∧ j ≤ 10000 then some (.n (.lst (rngD 0 j.toNat))) else none
  | _ => none
def cLrg (c : CE) : CE := c1 fLrg c
theorem ats_rng {F : Hp} (n : Int) : Ats E F (rgV 0 n) (rngD 0 n.toNat) := by
  unfold rgV rngD
  have e : (n - 0).toNat = n.toNat := by omega
  rw [e]
  generalize List.range n.toNat = l
  induction l with
  | nil => exact .nil
  | cons x l ih => exact .cons (.int _) ih
theorem ev_lrg {a : Expr} {c : CE} {p p2 pos pos2 : Pos} (hc : X.calm = true) (hg : Gl X "list") (hm : X.mg "list" = none) (hg2 : Gl X "range") (hm2 : X.mg "range" = none) (ha : PE X a (rE E B W c))
    (na : starEach [a] X.env = (false, eval a X.env) :: starEach [] X.env := by rfl) (nb : starEach [Expr.Call (.Name "range" p2) [a] [] pos2] X.env = (false, eval (Expr.Call (.Name "range" p2) [a] [] pos2) X.env) :: starEach [] X.env := by rfl) :
    PE X (.Call (.Name "list" p) [.Call (.Name "range" p2) [a] [] pos2] [] pos) (rE E B W (cLrg c)) := by
  refine PE.weak (pe_listRg hc hg hm (prg_1 hg2 hm2 ha na) nb) fun σ H Q h => ?_
  refine rF_imp (rF_bv (c := c) (k := fun G x C1 => out ((peek C1 x).bind fLrg) C1) mo_tru h) fun v H1 ⟨x, h1⟩ => ?_
  obtain ⟨F, as, G, C, z, wd, sr, ⟨_, ax⟩, e, k⟩ := rF_out h1
  cases q1 : peek C x with
  | none => rw [q1] at e; cases e
  | some dx =>
    rw [q1] at e
    have px := peek_pk wd ax q1
    cases dx with
    | int j =>
      have e : (if -1000 ≤ j ∧ j ≤ 10000 then some (Rd1.n (.lst (rngD 0 j.toNat))) else none) = some z := e
      by_cases c : -1000 ≤ j ∧ j ≤ 10000
      · rw [if_pos c] at e
        cases e
        exact ⟨j, px.int, ⟨by omega, by omega, by omega, by omega, by omega⟩, finL wd.sub k (ats_rng j)⟩
      · rw [if_neg c] at e; cases e
    | _ => cases e
end
end TL
set_option Elab.async false
set_option linter.all false
set_option maxRecDepth 100000
set_option maxHeartbeats 1000000
/-! Vg: dicts with tuple keys walked: keys, items. -/
namespace TL
open PySem PySem.Spec PyProof.Rows L2 Gd
theorem ndic_rows {w : World} : ∀ {xs : NE} {l : List DictEntry}, Paired (NRow w) xs l → l.length = xs.length ∧ ∀ (i : Nat) (k : NestedKey) (b : Addr) (v : V), xs[i]? = some (k, b, v) → ∃ e : DictEntry, l[i]? = some e ∧ e.key = .ref b ∧ L2.RelV v e.val
  | _, _, .nil => ⟨rfl, fun i k b v e => by simp at e⟩
  | _, _, .cons (a := p) (b := q) h t => by
    obtain ⟨h1, h2⟩ := ndic_rows t
    refine ⟨congrArg (· + 1) h1, fun i k b v e => ?_⟩
    cases i with
    | zero => cases e; obtain ⟨u, rfl, r⟩ := h; exact ⟨_, rfl, rfl, r⟩
    | succ i => exact h2 i k b v (by simpa using e)
theorem frzN {X : Cx} {pins : List (Addr × Obj)} {σ : L2.St} {H : Hp} {s : Shared} {d : Addr} {o : Obj} {xs : NE} (I : L2.Inv X pins σ H s) (h : H d = some (.frz o (NDicO X.w d xs))) :
    (d == sysModules) = false ∧ s.heap.get? d = some o ∧ o.ExactDict ∧ ∃ (es : Array DictEntry) (ep : Nat), o.data = .dict es ep ∧ es.size = xs.length ∧ ∀ (i : Nat) (k : NestedKey) (b : Addr) (v : V), xs[i]? = some (k, b, v) → ∃ e : DictEntry, es[i]? = some e ∧ e.key = .ref b ∧ L2.RelV v e.val := by
  obtain ⟨e0, z⟩ := I.hok d _ h
  have R : NDic X.w s.heap d xs := z.1
  obtain ⟨o', es, ep, h1, h2, h3, h4⟩ := R.ex
  rw [e0] at h1
  cases h1
  obtain ⟨r1, r2⟩ := ndic_rows h4
  refine ⟨R.lo, e0, h2, es, ep, h3, by simpa using r1, fun i k b v e => ?_⟩
  obtain ⟨en, q1, q2⟩ := r2 i k b v e
  exact ⟨en, by simpa using q1, q2⟩
def ItnI (w : World) (d : Addr) (o : Obj) (xs : NE) : It :=
  ⟨fun i H => H d = some (.frz o (NDicO w d xs)) ∧ i < xs.length, fun i H x H' => ∃ T k b v, xs[i]? = some (k, b, v) ∧ x = .ref T ∧ H T = none ∧ H' = upd H T (.tup [.ref b, v]), fun i H => H d = some (.frz o (NDicO w d xs)) ∧ xs.length ≤ i⟩
def ItnK (w : World) (d : Addr) (o : Obj) (xs : NE) : It :=
  ⟨fun i H => H d = some (.frz o (NDicO w d xs)) ∧ i < xs.length, fun i H x H' => H' = H ∧ ∃ k b v, xs[i]? = some (k, b, v) ∧ x = .ref b, fun i H => H d = some (.frz o (NDicO w d xs)) ∧ xs.length ≤ i⟩
section
variable {P : Program} {w : World} {K : PySem.W.Frag} {tg : Expr} {d : Addr} {o : Obj} {es : Array DictEntry} {ep : Nat}
theorem turn_keysN {xs : NE} (it : Addr) (hod : o.data = .dict es ep) : Turn P w K tg (ItnK w d o xs) [it] it (fun i h => h.IsKeyIter it d i xs.length ep) where
  mem := by simp
  obj := fun i h st b hb => by
    have e : b = it := by simpa using hb
    subst e
    obtain ⟨oi, e, c, dd⟩ := st
    exact ⟨oi, e, fun v z => by rw [dd] at z; cases z⟩
  keep := fun i h h' st k => st.at fun oi e => k it (by simp) oi e
  item := by
    intro X hP hw hK hc i pins s σ H E I hf st hg
    subst hP hw hK
    obtain ⟨hd, hi⟩ := hg
    obtain ⟨f0, f1, f2, f3, f4, f5⟩ := hf it (by simp)
    obtain ⟨hs, hgd, hx, es', ep', hdt, hsz, ent⟩ := frzN I hd
    obtain ⟨rfl, rfl⟩ := dict_ep hod hdt
    obtain ⟨⟨k, b, v⟩, hkv⟩ : ∃ p, xs[i]? = some p := ⟨xs[i], List.getElem?_eq_getElem hi⟩
    obtain ⟨en, hen, hkey, hv⟩ := ent i k b v hkv
    refine next_key_item st hgd hdt hsz hen fun h' st' sb => ?_
    have I1 : L2.Inv X pins σ H { s with heap := h' } := I.turned (t' := s.toks) (fun c ob hb e => (sb.2 c hb).trans e) f0 f1 f3 f4 f5
    obtain ⟨oi, e, c, dd⟩ := id st'
    exact ⟨en.key, rfl, go_of (s := { s with heap := h' }) e c dd (by decide) ⟨.ref b, H, I1, hkey, ⟨rfl, k, b, v, hkv, rfl⟩, st', fun c hb => (hf c hb).1⟩⟩
  done := by
    intro X hP hw hK hc i pins s σ H E I hf st hg
    subst hP hw hK
    obtain ⟨hd, hi⟩ := hg
    obtain ⟨f0, f1, f2, f3, f4, f5⟩ := hf it (by simp)
    obtain ⟨hs, hgd, hx, es', ep', hdt, hsz, ent⟩ := frzN I hd
    obtain ⟨rfl, rfl⟩ := dict_ep hod hdt
    exact next_key_end (I.ok.hd hc) st hgd hdt hsz hi fun h' eb => ⟨rfl, I.turned (t' := s.toks) (fun b ob hb e => eb b ob hb e) f0 f1 f3 f4 f5⟩
  self := fun A i s Q E st h => by
    refine wpAny_pyIter_slot st.typeIs F.slot_dict_keyiterator_iter (wpAny_call_entry F.slot_dict_keyiterator_iter st.typeIs F.entry_dict_keyiterator_iter ?_ (F.args_dict_keyiterator_iter_1 _))
    show wpAny _ _ (ret (.ref it)) _ _ s
    exact wpAny_pure ⟨_, rfl, "dict_keyiterator", _, st.typeIs, F.slot_dict_keyiterator_next.lookup, h⟩
theorem turn_itemsN {xs : NE} {elts : List Expr} {kk : Nat} {tpos : Pos} (it : Addr) (hod : o.data = .dict es ep) :
    Turn P w K (.Tuple elts kk tpos) (ItnI w d o xs) [it] it (fun i h => ∃ ok ov, IsItemIter h it d i xs.length ep ok ov) where
  mem := by simp
  obj := fun i h st b hb => by
    have e : b = it := by simpa using hb
    subst e
    obtain ⟨ok, ov, e⟩ := st
    exact ⟨_, e, fun v z => nomatch z⟩
  keep := fun i h h' st k => let ⟨ok, ov, e⟩ := st; ⟨ok, ov, k it (by simp) _ e⟩
  item := by
    intro X hP hw hK hc i pins s σ H E I hf st hg
    subst hP hw hK
    obtain ⟨hd, hi⟩ := hg
    obtain ⟨hs, hgd, hx, es', ep', hdt, hsz, ent⟩ := frzN I hd
    obtain ⟨rfl, rfl⟩ := dict_ep hod hdt
    obtain ⟨⟨k, b, v⟩, hkv⟩ : ∃ p, xs[i]? = some p := ⟨xs[i], List.getElem?_eq_getElem hi⟩
    obtain ⟨en, hen, hkey, hv⟩ := ent i k b v hkv
    have il : i < es'.size := by omega
    have hen2 : es'[i] = en := by
      rw [Array.getElem?_eq_getElem il] at hen
      exact Option.some.inj hen
    obtain ⟨ok, ov, he⟩ := st
    rw [← hsz] at he
    have hlt : it < s.heap.objs.size := Heap.lt_size he
    refine DT.nextI he ⟨o, hgd, hx, hdt⟩ il fun h' ho hT hz hk => ?_
    rw [hen2] at ho hT
    refine ⟨_, rfl, wpAny_letOwnedTupleGo_items (s := { s with heap := h' }) ho fun h'' he' sb => ?_⟩
    have hT2 : h''.get? s.heap.objs.size = some { cls := .type "tuple", data := .seq #[en.key, en.val] } := (sb.2 _ (Nat.ne_of_gt hlt)).trans hT
    have new : ObjOk X.prog X.w (upd H s.heap.objs.size (.tup [.ref b, v])) h'' s.heap.objs.size (.tup [.ref b, v]) :=
      ⟨by show 2 ≤ sizeLine; decide, [en.key, en.val], .cons (by rw [hkey]; rfl) (.cons hv .nil), ⟨_, hT2, rfl, _, rfl⟩⟩
    have I1 : L2.Inv X pins σ (upd H s.heap.objs.size (.tup [.ref b, v])) { s with heap := h'' } :=
      I.turnedNew (t' := s.toks) (ch := [it]) (fun c ob hb e => (sb.2 c (by simpa using hb)).trans (hk c ob (by simpa using hb) e)) hf (Nat.le_refl _) new
    refine ⟨.ref s.heap.objs.size, _, I1, rfl, ⟨_, k, b, v, hkv, rfl, I.hok.fresh (Nat.le_refl _), rfl⟩, ⟨en.key, en.val, ?_⟩, fun c hb => ?_⟩
    · rw [← hsz]; exact he'
    · have e : c = it := by simpa using hb
      rw [e, upd_ne (Nat.ne_of_lt hlt)]
      exact (hf it (by simp)).1
  done := by
    intro X hP hw hK hc i pins s σ H E I hf st hg
    subst hP hw hK
    obtain ⟨hd, hi⟩ := hg
    obtain ⟨f0, f1, f2, f3, f4, f5⟩ := hf it (by simp)
    obtain ⟨hs, hgd, hx, es', ep', hdt, hsz, ent⟩ := frzN I hd
    obtain ⟨rfl, rfl⟩ := dict_ep hod hdt
    obtain ⟨ok, ov, he⟩ := st
    rw [← hsz] at he
    exact DT.endI (I.ok.hd hc) he ⟨o, hgd, hx, hdt⟩ (by omega) fun h' eb => ⟨rfl, I.turned (t' := s.toks) (fun b ob hb e => eb b ob hb e) f0 f1 f3 f4 f5⟩
  self := fun A i s Q E st h => let ⟨_, _, e⟩ := st; PySem.W.kcp_self e h
end
section
variable {X : Cx} {tg e : Expr} {td : TE} {apos cpos : Pos}
def iKeysN (w : World) (td : TE) : TI := fun σ H R => td σ H fun x H1 => ∃ d o xs, x = .ref d ∧ H1 d = some (.frz o (NDicO w d xs)) ∧ R (ItnK w d o xs) H1
def iItemsN (w : World) (td : TE) : TI := fun σ H R => td σ H fun x H1 => ∃ d o xs, x = .ref d ∧ H1 d = some (.frz o (NDicO w d xs)) ∧ R (ItnI w d o xs) H1
theorem pi_keysN (he : PE X e td) : PI X tg e (iKeysN X.w td) := by
  refine ⟨fun pins s σ H R I h => ?_⟩
  refine thn (he.run pins s σ H _ I h) fun u s1 ⟨x, H1, I1, rx, d, o, xs, ex, hd, q⟩ => ?_
  subst ex
  obtain rfl : u = Value.ref d := rx
  obtain ⟨hs, hgd, hx, es, ep, hdt, hsz, ent⟩ := frzN I1 hd
  refine iter_keys hs hgd hx hdt (pi_one (tk := s1.toks) I1 _ (turn_keysN _ hdt) ⟨_, Heap.get?_push_size _ rfl, rfl, ?_⟩ q)
  rw [hsz] <;> rfl
theorem pi_itemsN {elts : List Expr} {kk : Nat} {tpos : Pos} (he : PE X e td) (hbase : attributeBase e "items" X.env (eval e X.env) = eval e X.env := by rfl) (hline : (apos.endLine == cpos.line) = true := by rfl) :
    PI X (.Tuple elts kk tpos) (.Call (.Attribute e "items" apos) [] [] cpos) (iItemsN X.w td) := by
  refine ⟨fun pins s σ H R I h => ?_⟩
  refine wpAny_Call_method (T := "dict") (id := "dict.items") hbase rfl hline F.plainAttrs_dict F.slot_dict_items F.type_dict_items (thn (he.run pins s σ H _ I h) fun u s1 ⟨x, H1, I1, rx, d, o, xs, ex, hd, q⟩ => ?_)
  subst ex
  obtain rfl : u = Value.ref d := rx
  obtain ⟨hs, hgd, hx, es, ep, hdt, hsz, ent⟩ := frzN I1 hd
  have raw : DT.Raw s1.heap d es ep := ⟨o, hgd, hx, hdt⟩
  refine ⟨raw.typeIs, fun a e => by cases e; exact ⟨o, hgd, hx.2.1⟩, ?_⟩
  have I2 : L2.Inv X pins σ H1 { s1 with heap := s1.heap.push { cls := .type "dict_items", data := .fields #[.ref d] } } := I1.kept (t' := s1.toks) fun b ob q => Heap.get?_push_of_some _ q
  have fin : wpAny (model X.prog X.w) X.A (pyIter (.ref s1.heap.objs.size)) (PIE X pins σ (.Tuple elts kk tpos) R) X.xe { s1 with heap := s1.heap.push { cls := .type "dict_items", data := .fields #[.ref d] } } := by
    refine DT.iterI (d := d) ⟨_, Heap.get?_push_size _ rfl, rfl, rfl⟩ (raw.push _) (pi_one (tk := s1.toks) I2 _ (turn_itemsN _ hdt) ⟨.none, .none, ?_⟩ q)
    rw [← hsz]
    exact Heap.get?_push_size _ rfl
  show wpAny _ _ (callWith cpos (.builtin "dict.items") [.ref d] [] []) _ X.xe s1
  exact method_meetsIn F.slot_dict_items F.entry_dict_items rfl (PySem.evalArgs_none ⟨rfl, raw.typeIs, F.args_dict_items_1 _, _, DT.meetsItems (es := es) (ep := ep) hs, raw, fin⟩)
end
/-! ### over trees -/
def LkU (H : Hp) (d : Addr) (u : HO) (o : Obj) (H2 : Hp) : Prop := (H2 = H ∧ H d = some (.frz o u)) ∨ (H d = some u ∧ H2 = upd H d (.frz o u))
theorem LkU.at {H : Hp} {d : Addr} {u : HO} {o : Obj} {H2 : Hp} (h : LkU H d u o H2) : H2 d = some (.frz o u) := by
  rcases h with ⟨rfl, h⟩ | ⟨_, rfl⟩
  · exact h
  · exact upd_same
def tLkU (td : TE) : TE := fun σ H Q => td σ H fun x H1 => ∃ d u, x = .ref d ∧ Rd H1 d u ∧ Mut (some u) ∧ ∀ o H2, LkU H1 d u o H2 → Q x H2
theorem pe_lkU {X : Cx} {e : Expr} {td : TE} (he : PE X e td) : PE X e (tLkU td) := ⟨fun pins s σ H Q I h => by
  refine thn (he.run pins s σ H _ I h) fun v s1 ⟨x, H1, I1, rx, d, u, ex, hd, mu, q⟩ => ?_
  rcases hd with hd | ⟨o, hd⟩
  · obtain ⟨od, I2⟩ := I1.lock hd mu
    exact ⟨x, _, I2, rx, q od _ (.inr ⟨hd, rfl⟩)⟩
  · exact ⟨x, H1, I1, rx, q o H1 (.inl ⟨rfl, hd⟩)⟩⟩
section
variable {E : Ev} {F H : Hp}
theorem nd_nc' {w : World} {a : Addr} {xs : NE} (q : Str) (z : NDicO w a xs = LamX.CodeO a q) : False := nd_nc (c := a) z
theorem Gr.lkU {d : Addr} {u : HO} {o : Obj} {H2 : Hp} (s : Same F H) (hd : Rd F d u) (lk : Lk u) (nt : NT u) (nc : ∀ q, u = LamX.CodeO d q → False) (l : LkU H d u o H2) : ∃ F2, Gr E F H F2 H2 ∧ F2 d = some (.frz o u) := by
  rcases l with ⟨rfl, h⟩ | ⟨h, rfl⟩
  · refine ⟨F, Gr.refl s, ?_⟩
    rcases hd with z | ⟨o2, z⟩
    · rw [s _ _ z] at h
      rw [Option.some.inj h] at lk
      exact (lk_frz lk).elim
    · rw [s _ _ z] at h; cases h; exact z
  · have fd : F d = some u := by
      rcases hd with z | ⟨o2, z⟩
      · exact z
      · rw [s _ _ z] at h
        rw [← Option.some.inj h] at lk
        exact (lk_frz lk).elim
    refine ⟨upd F d (.frz o u), ⟨fun a u' e => ?_, fun a u' e => ?_, fun a u' e z nt => ?_, fun a u' e z => ?_, fun a z => ?_, fun t => tabs_put t h nt nc, fun n a u' e => ?_⟩, upd_same⟩
    · by_cases q : a = d
      · subst q; rw [upd_same] at e ⊢; exact e
      · rw [upd_ne q] at e ⊢; exact s a u' e
    · by_cases q : a = d
      · subst q; rw [fd] at e; cases e; exact .inr ⟨o, lk, upd_same⟩
      · exact .inl (by rw [upd_ne q]; exact e)
    · rw [upd_ne (by rintro rfl; rw [fd] at z; cases z)]; exact e
    · by_cases q : a = d
      · subst q; rw [fd] at z; cases z
      · rw [upd_ne q, z] at e; cases e
    · exact z.upd (by intro _ z; cases z)
    · by_cases q : a = d
      · subst q; rw [upd_same] at e; cases e; exact fun _ z => by cases z
      · rw [upd_ne q] at e; exact n a u' e
theorem atn_get : ∀ {xs : NE} {ps : List (D × D)} {i : Nat} {k : NestedKey} {b : Addr} {v : V}, Atn E F xs ps → xs[i]? = some (k, b, v) → ∃ e d, ps[i]? = some (e, d) ∧ At E F (.ref b) e ∧ At E F v d
  | _, _, _, _, _, _, .nil, e => by simp at e
  | _, _, 0, _, _, _, .cons hk _ h _, e => by cases e; exact ⟨_, _, rfl, hk, h⟩
  | _, _, i + 1, k, b, v, .cons _ _ _ r, e => atn_get (i := i) (k := k) (b := b) (v := v) r (by simpa using e)
theorem jok_itemsN {d : Addr} {o : Obj} {xs : NE} {ps : List (D × D)} (h : F d = some (.frz o (NDicO E.w d xs))) (r : Atn E F xs ps) : JOk E (ItnI E.w d o xs) F (itemsD ps) := fun F2 H i s sub => by
  have h2 : H d = some (.frz o (NDicO E.w d xs)) := sub _ _ (s.get h lk_frz)
  have l := atn_len r
  have lz : (itemsD ps).length = ps.length := List.length_map ..
  refine ⟨fun hi => ⟨⟨h2, by omega⟩, ?_⟩, fun hi => ⟨h2, by omega⟩⟩
  rintro x H' ⟨T, k, b, v, hkv, rfl, hT, rfl⟩
  obtain ⟨e, d', e1, a1, a2⟩ := atn_get r hkv
  have gr : Gr E F2 H (upd F2 T (.tup [.ref b, v])) (upd H T (.tup [.ref b, v])) := Gr.newF sub hT
  refine ⟨.pr [e, d'], _, ?_, gr, .pr (.inl (.inl upd_same)) (.cons ((a1.mv s).mv gr.f) (.cons ((a2.mv s).mv gr.f) .nil))⟩
  unfold itemsD
  rw [List.getElem?_map, e1]
  rfl
theorem jok_keysN {d : Addr} {o : Obj} {xs : NE} {ps : List (D × D)} (h : F d = some (.frz o (NDicO E.w d xs))) (r : Atn E F xs ps) : JOk E (ItnK E.w d o xs) F (ps.map (·.1)) := fun F2 H i s sub => by
  have h2 : H d = some (.frz o (NDicO E.w d xs)) := sub _ _ (s.get h lk_frz)
  have l := atn_len r
  have lz : (ps.map (·.1)).length = ps.length := List.length_map ..
  refine ⟨fun hi => ⟨⟨h2, by omega⟩, ?_⟩, fun hi => ⟨h2, by omega⟩⟩
  rintro x H' ⟨rfl, k, b, v, hkv, rfl⟩
  obtain ⟨e, d', e1, a1, a2⟩ := atn_get r hkv
  exact ⟨e, F2, by rw [List.getElem?_map, e1]; rfl, Gr.refl sub, a1.mv s⟩
end
section
variable {X : Cx} {E : Ev} {B : Bs} {W : WX} {tg e : Expr} {c : CE}
def dicN (f : List (D × D) → List D) (d : D) : Option (List D) := match d with
  | .dic ps => if tuK ps = true ∧ scK ps = false then some (f ps) else none
  | _ => none
theorem dicN_inv {f : List (D × D) → List D} {d : D} {ds : List D} (e : dicN f d = some ds) : ∃ ps, d = .dic ps ∧ (tuK ps = true ∧ scK ps = false) ∧ ds = f ps := by
  cases d with
  | dic ps =>
    have e : (if tuK ps = true ∧ scK ps = false then some (f ps) else none) = some ds := e
    by_cases h : tuK ps = true ∧ scK ps = false
    · rw [if_pos h] at e; cases e; exact ⟨ps, rfl, h, rfl⟩
    · rw [if_neg h] at e; cases e
  | _ => cases e
theorem lkN_walk {f : List (D × D) → List D} {σ : L2.St} {H : Hp} {R : It → Hp → Prop} {mn : Addr → Obj → NE → It}
    (jn : ∀ {F : Hp} {d : Addr} {o : Obj} {xs : NE} {ps : List (D × D)}, F d = some (.frz o (NDicO E.w d xs)) → Atn E F xs ps → JOk E (mn d o xs) F (f ps))
    (h : rI E B W (i1 (dicN f) c) σ H R) : tLkU (rE E B W c) σ H fun x H1 => ∃ d o xs, x = .ref d ∧ H1 d = some (.frz o (NDicO E.w d xs)) ∧ R (mn d o xs) H1 := rF_imp (rI_one h) fun v H1 ⟨F, as, C, ds, d, wd, a, e, k⟩ => by
  obtain ⟨ps, rfl, q, rfl⟩ := dicN_inv e
  cases a with
  | dic hd r => rw [atk_sc r] at q; cases q.2
  | dicN hd n r =>
    refine ⟨_, _, rfl, (Sm.of wd.sub).rd hd, True.intro, fun o H2 l => ?_⟩
    obtain ⟨F2, gr, fd⟩ := Gr.lkU (E := E) wd.sub hd (.inr ⟨_, rfl⟩) (fun _ z => by unfold NDicO at z; cases z) (fun q z => nd_nc' q z) l
    exact ⟨_, o, _, rfl, l.at, k F2 H2 _ gr (jn fd (r.mv gr.f))⟩
/-- a dict of either kind -/
def dicA (f : List (D × D) → List D) (d : D) : Option (List D) := match d with
  | .dic ps => if scK ps = true then some (f ps) else if tuK ps = true then some (f ps) else none
  | _ => none
theorem dicA_split {f : List (D × D) → List D} {σ : L2.St} {H : Hp} {R : It → Hp → Prop} (h : rI E B W (i1 (dicA f) c) σ H R) : rI E B W (i1 (dicI f) c) σ H R ∨ rI E B W (i1 (dicN f) c) σ H R := by
  obtain ⟨F, as, G, C, r, C', wd, sr, q, po⟩ := h
  unfold i1 at q
  cases q1 : c G C with
  | none => simp only [q1] at q; cases q
  | some p =>
    obtain ⟨x, C1⟩ := p
    simp only [q1] at q
    cases x with
    | c k => cases q
    | n o => cases q
    | ex er => cases q; exact .inl ⟨F, as, G, C, .ex er, C', wd, sr, by unfold i1; simp only [q1], po⟩
    | v d =>
      simp only at q
      cases d with
      | dic ps =>
        have q : (dicA f (.dic ps)).map (fun ds => (Ri.ok ds, C1)) = some (r, C') := q
        unfold dicA at q
        simp only at q
        by_cases c1 : scK ps = true
        · rw [if_pos c1] at q
          refine .inl ⟨F, as, G, C, r, C', wd, sr, ?_, po⟩
          unfold i1; simp only [q1]; unfold dicI; simp only; rw [if_pos c1]; exact q
        · rw [if_neg c1] at q
          by_cases c2 : tuK ps = true
          · rw [if_pos c2] at q
            refine .inr ⟨F, as, G, C, r, C', wd, sr, ?_, po⟩
            unfold i1; simp only [q1]; unfold dicN; simp only; rw [if_pos ⟨c2, by simpa using c1⟩]; exact q
          · rw [if_neg c2] at q; cases q
      | _ => cases q
theorem iv_items2 {elts : List Expr} {kk : Nat} {tpos apos cpos : Pos} (hw : X.w = E.w) (he : PE X e (rE E B W c)) (hbase : attributeBase e "items" X.env (eval e X.env) = eval e X.env := by rfl) (hline : (apos.endLine == cpos.line) = true := by rfl) :
    PI X (.Tuple elts kk tpos) (.Call (.Attribute e "items" apos) [] [] cpos) (rI E B W (i1 (dicA itemsD) c)) :=
  PI.weak (PI.or (iv_items he hbase hline) (pi_itemsN (pe_lkU he) hbase hline)) fun σ H R h => (dicA_split h).imp id fun h => by
    have z := lkN_walk jok_itemsN h
    unfold iItemsN
    rw [hw]
    exact z
/-- what stands in the for: a list, a tuple, a text, a dict -/
def items3 : D → Option (List D)
  | .dic ps => if scK ps = true then some (ps.map (·.1)) else if tuK ps = true then some (ps.map (·.1)) else none
  | d => items d
theorem iv_all (hw : X.w = E.w) (hK : X.K = E.K) (he : PE X e (rE E B W c)) : PI X tg e (rI E B W (i1 items3 c)) := by
  have h1 := iv_seq (tg := tg) hK he
  have h2 := iv_keys (tg := tg) he
  have h3 := pi_keysN (tg := tg) (pe_lkU he)
  refine PI.weak (PI.or h1 (PI.or h2 h3)) fun σ H R h => ?_
  obtain ⟨F, as, G, C, r, C', wd, sr, q, po⟩ := h
  have q' := q
  unfold i1 at q
  cases q1 : c G C with
  | none => simp only [q1] at q; cases q
  | some p =>
    obtain ⟨x, C1⟩ := p
    simp only [q1] at q
    cases x with
    | c k => cases q
    | n o => cases q
    | ex er => cases q; exact .inl ⟨F, as, G, C, .ex er, C', wd, sr, by unfold iSeq; simp only [q1], po⟩
    | v d =>
      simp only at q
      by_cases hd : ∃ ps, d = .dic ps
      · obtain ⟨ps, rfl⟩ := hd
        refine .inr ?_
        have h : rI E B W (i1 (dicA fun ps => ps.map (·.1)) c) σ H R := ⟨F, as, G, C, r, C', wd, sr, by unfold i1; simp only [q1]; exact q, po⟩
        refine (dicA_split h).imp id fun h => ?_
        have z := lkN_walk jok_keysN h
        unfold iKeysN
        rw [hw]
        exact z
      · refine .inl ⟨F, as, G, C, r, C', wd, sr, ?_, po⟩
        unfold iSeq
        simp only [q1]
        cases d with
        | dic ps => exact absurd ⟨ps, rfl⟩ hd
        | _ => exact q
end
end TL
set_option Elab.async false
set_option linter.all false
set_option maxRecDepth 100000
set_option maxHeartbeats 1000000
/-! Vh: dict displays with keys of either kind; tuple targets; divmod; star arguments. -/
namespace TL
open PySem PySem.Spec PyProof.Rows L2 Gd
def Stores (S : SD) (D : Addr) : List (V × V) → Hp → (Hp → Prop) → Prop
  | [], H, N => N H
  | (y, z) :: r, H, N => S D y z H fun H' => Stores S D r H' N
theorem store_all {X : Cx} {S : SD} {D : Addr} {pins : List (Addr × Obj)} {σ : L2.St} {N : Hp → Prop} {Er : Value → Shared → Prop} {Q : PUnit → Shared → Prop} (hS : DSet X S) (fin : ∀ s' H', L2.Inv X pins σ H' s' → N H' → Q PUnit.unit s') : ∀ (ps : List (V × V)) (vs : List (Value × Value)) (s : Shared) (H : Hp), L2.Inv X pins σ H s → VV ps vs → Stores S D ps H N →
    wpAny (model X.prog X.w) X.A (forIn vs PUnit.unit fun (x : Value × Value) (_ : PUnit) => (do dictSet D x.1 x.2; pure (ForInStep.yield PUnit.unit) : Sem (ForInStep PUnit))) Q Er s
  | _, _, s, H, I, .nil, h => by
    rw [List.forIn_nil]
    exact wpAny_pure (fin s H I h)
  | (y, z) :: r, _, s, H, I, .cons (b := (u, v)) ⟨r1, r2⟩ t, h => by
    rw [List.forIn_cons]
    exact wpAny_bind (wpAny_bind (hS pins s σ H D y z u v _ _ _ I r1 r2 h fun s' H' I' n => wpAny_pure (store_all hS fin r _ s' H' I' t n)))
def tDispS (S : SD) (trs : List (TE × TE)) : TE := fun σ H Q => ∀ p, H p = none → tPairs trs σ (upd H p (.dK [])) fun ps H2 => Stores S p ps H2 (Q (.ref p))
theorem pe_dispS {X : Cx} {S : SD} {pos : Pos} {keys : List (Option Expr)} {values : List Expr} {trs : List (TE × TE)} (hS : DSet X S) (h : PPs X pos keys values trs) (hall : keys.all (·.isSome) = true) (hl : keys.length = values.length) (h0 : keys ≠ [])
    (h15 : keys.length ≤ 15) : PE X (.Dict keys values pos) (tDispS S trs) := by
  refine ⟨fun pins s σ H Q I q => ?_⟩
  have hn := I.hok.fresh (Nat.le_refl s.heap.objs.size)
  have I1 := I.laid (a := s.heap.objs.size) (o := .dK []) (h' := s.heap.push { cls := .type "dict", data := .dict #[] }) (t' := s.toks) (fun _ _ q => Heap.get?_push_of_some _ q) (Nat.le_refl _) (dk_empty s.heap I.big)
  have hlen := pairTrees_length keys values X.env pos hall hl
  have hne : pairTrees keys values X.env pos ≠ [] := fun he => h0 (List.length_eq_zero_iff.mp (by rw [he] at hlen; exact hlen.symm))
  rw [arm_eval_Dict, zip_pairTrees keys values X.env pos hall hl, dictDisplay_pairs _ hne (by omega)]
  refine wpAny_bind (wpAny_standAt (wpAny_bind ?_))
  unfold subDict
  refine wpAny_bind (wpAny_alloc (wpAny_bind (wpAny_holding ?_)))
  rw [if_pos (by omega)]
  refine wpAny_bind (thn (h.run pins _ σ _ _ I1 (q _ hn)) fun ws s2 ⟨ps, H2, I2, rel, st⟩ => ?_)
  refine wpAny_holding (wpAny_bind (store_all hS (fun s' H' I' n => ?_) ps ws s2 H2 I2 rel st))
  exact wpAny_pure (wpAny_pure (wpAny_pure ⟨.ref s.heap.objs.size, H', I', rfl, n⟩))
def pairUp : List V → List (V × V)
  | x :: y :: r => (x, y) :: pairUp r
  | _ => []
structure PPd (X : Cx) (E : Ev) (W : WX) (pos : Pos) (keys : List (Option Expr)) (values : List Expr) (ca : CA) : Prop where
  ex : ∃ trs, PPs X pos keys values trs ∧ ∀ σ H (QA : List (V × V) → Hp → Prop), (∃ B', rA E B' W tru ca σ H fun vs H' => QA (pairUp vs) H') → tPairs trs σ H QA
theorem ppd_nil {X : Cx} {E : Ev} {W : WX} {pos : Pos} : PPd X E W pos [] [] aNil := ⟨[], pps_nil, fun σ H QA ⟨B', h⟩ => rA_nil h⟩
theorem ppd_cons {X : Cx} {E : Ev} {W : WX} {pos : Pos} {k v : Expr} {ks : List (Option Expr)} {vs : List Expr} {ck cv : CE} {ca : CA} (hk : ∀ B', PE X k (rE E B' W ck)) (hv : ∀ B', PE X v (rE E B' W cv)) (hr : PPd X E W pos ks vs ca) : PPd X E W pos (some k :: ks) (v :: vs) (aCons ck (aCons cv ca)) := by
  obtain ⟨trs, h1, h2⟩ := hr.ex
  refine ⟨_, pps_cons (tk := fun σ H Q => ∃ B', rE E B' W ck σ H Q) (tv := fun σ H Q => ∃ B', rE E B' W cv σ H Q) ⟨fun pins s σ H Q I ⟨B', q⟩ => (hk B').run pins s σ H Q I q⟩ ⟨fun pins s σ H Q I ⟨B', q⟩ => (hv B').run pins s σ H Q I q⟩ h1, fun σ H QA ⟨B', h⟩ => ?_⟩
  have z := rA_cons mo_tru h
  refine ⟨B', rF_imp z fun x H1 z1 => ?_⟩
  have z2 := rA_cons mo_tru z1
  refine ⟨B', rF_imp z2 fun y H2 z3 => h2 σ H2 _ ⟨B', z3⟩⟩
/-- the dict that pairs make -/
def dispD : List D → List (D × D) → Option (List (D × D))
  | k :: v :: r, acc => (dicOf (putC (.dic acc) k v)).bind fun acc' => dispD r acc'
  | [], acc => some acc
  | _, _ => none
def cDisp (ca : CA) : CE := fun G C => ba (ca G C) fun xs C1 => (vals xs).bind fun ds => (dispD ds []).map fun ps => (.n (.dic ps), C1)
section
variable {X : Cx} {E : Ev} {B : Bs} {W : WX}
theorem stores_of {P : Program} {F : Hp} {p : Addr} {N : Hp → Prop} : ∀ {ds : List D} {vs : List V} {acc l : List (D × D)} {H : Hp} {o : HO}, Ats E F vs ds → dispD ds acc = some l → (∀ a u, F a = some u → a ≠ p) → Same F H → H p = some o → HoAt E F p o (.dic acc) →
    (∀ o', HoAt E F p o' (.dic l) → N (upd H p o')) → Stores (SDt P E.w E.K) p (pairUp vs) H N
  | [], _, acc, l, H, o, .nil, e, np, sub, hp, ho, fin => by
    cases e
    have z := fin o ho
    have e2 : upd H p o = H := by
      funext a
      by_cases q : a = p
      · subst q; rw [upd_same, hp]
      · rw [upd_ne q]
    rw [e2] at z
    exact z
  | [_], _, acc, l, H, o, .cons _ .nil, e, np, sub, hp, ho, fin => by cases e
  | k :: v :: r, _, acc, l, H, o, .cons a1 (.cons a2 t), e, np, sub, hp, ho, fin => by
    have e : (dicOf (putC (.dic acc) k v)).bind (fun acc' => dispD r acc') = some l := e
    cases q : putC (.dic acc) k v with
    | none => rw [q] at e; cases e
    | some c' =>
      obtain ⟨acc', rfl⟩ := putC_dic q
      rw [q] at e
      refine store_of sub hp ho a1 a2 q fun o' ho' => ?_
      refine stores_of t e np (fun a u z => by rw [upd_ne (np a u z)]; exact sub a u z) upd_same ho' fun o2 h2 => ?_
      have e2 : upd (upd H p o') p o2 = upd H p o2 := by
        funext a
        by_cases q : a = p
        · subst q; rw [upd_same, upd_same]
        · rw [upd_ne q, upd_ne q, upd_ne q]
      rw [e2]
      exact fin o2 h2
theorem ev_disp {pos : Pos} {keys : List (Option Expr)} {values : List Expr} {ca : CA} (hP : X.prog = E.P) (hw : X.w = E.w) (hK : X.K = E.K) (hu : X.A.units + 10 < cLine) (h : PPd X E W pos keys values ca) (hall : keys.all (·.isSome) = true) (hl : keys.length = values.length) (h0 : keys ≠ [])
    (h15 : keys.length ≤ 15) : PE X (.Dict keys values pos) (rE E B W (cDisp ca)) := by
  obtain ⟨trs, h1, h2⟩ := h.ex
  have ds : DSet X (SDt E.P E.w E.K) := by
    have z := dset_t hu
    rw [hP, hw, hK] at z
    exact z
  refine PE.weak (pe_dispS ds h1 hall hl h0 h15) fun σ H Q h p hp => h2 σ _ _ ?_
  obtain ⟨F, as, G, C, r, C', wd, sr, _, e, po⟩ := h
  have fp := fresh_F wd.sub hp
  have np : p ∉ as := fun z => (wd.there p z).ne hp
  have bp := wd.nobase hp
  have f0 := wd.f0.none fp
  have w1 : Wd E ⟨upd B.H0 p (.dK []), B.F0, B.own⟩ (upd H p (.dK [])) F as C := (wd.outN fp np bp _ (.inl hp)).side upd_same fp np bp
  have e : ba (ca G C) (fun xs C1 => (vals xs).bind fun ds => (dispD ds []).map fun ps => (Rs.n (.dic ps), C1)) = some (r, C') := e
  refine ⟨⟨upd B.H0 p (.dK []), B.F0, B.own⟩, F, as, G, C, ?_⟩
  cases q : ca G C with
  | none => rw [q] at e; cases e
  | some pr =>
    obtain ⟨x, C1⟩ := pr
    rw [q] at e
    refine ⟨x, C1, w1, sr, trivial, rfl, fun F' H' s w => ?_⟩
    obtain ⟨w2, hD, fD⟩ := w.unside (B0 := F) (fun _ z => by cases z) bp f0 np
    cases x with
    | ex er => cases e; exact po F' H' s w2
    | ok xs =>
      intro vs av
      have e : (vals xs).bind (fun ds => (dispD ds []).map fun ps => (Rs.n (.dic ps), C1)) = some (r, C') := e
      cases q2 : vals xs with
      | none => rw [q2] at e; cases e
      | some ds =>
        rw [q2] at e
        simp only [Option.bind_some] at e
        cases q3 : dispD ds [] with
        | none => rw [q3] at e; cases e
        | some l =>
          rw [q3] at e
          cases e
          refine stores_of (vals_at av q2) q3 (fun a u z => by rintro rfl; rw [fD] at z; cases z) w2.sub hD (.inl ⟨[], rfl, .nil⟩) fun o' ho' => ?_
          have w3 := w2.outN fD np bp o' (.inr ⟨_, hD, (fun _ z => by cases z), fun q z => by unfold LamX.CodeO at z; cases z⟩) (nt_ho ho')
          exact po.back (fun _ z => by cases z) s w3 ⟨p, o', rfl, upd_same, fD, np, bp, ho'⟩
/-! ### a, b = .. -/
def sAsg (t : CT) (c : CE) : CS := fun G C => sv (c G C) G fun x C1 => match x with
  | .v d => (t d G).map fun G1 => (.nx, G1, C1)
  | .c _ => none
theorem sv_asg {tg value : Expr} {g : TG} {t : CT} {c : CE} {pos : Pos} (hv : PE X value (rE E B W c)) (hg : PG X tg g) (ht : TgOk E g t) (hs : swapsWithSole [tg] value pos.line X.env = pure false := by rfl) (hsw : swappedStores [tg] value X.env = pure none := by rfl)
    (h1 : (assignEach [tg] X.env).map (·.2) = [assign tg X.env] := by rfl) : PS X (.Assign [tg] value pos) (rS E B W (sAsg t c)) := PS.weak (ps_asg hv hg hs hsw h1) fun D σ H h => rF_imp (rS_sv h) fun v H1 ⟨x, F, as, G, C, o, G', C', wd, sr, a, e, po⟩ => by
  cases x with
  | c k => cases e
  | v d =>
    have e : (t d G).map (fun G1 => (Out.nx, G1, C)) = some (o, G', C') := e
    cases q : t d G with
    | none => rw [q] at e; cases e
    | some G2 =>
      rw [q] at e
      cases e
      exact ht F H1 as σ G _ v d _ wd.sub a sr q fun σ1 sr1 => po F H1 as σ1 (Sm.refl F) (List.prefix_refl _) wd sr1
/-! ### divmod -/
def fDvm (ds : List D) : Option Rd1 := match ds with
  | [.int i, .int j] => if 0 < j ∧ j < 1073741824 then some (.v (.tup [.int (i / j), .int (i % j)])) else none
  | _ => none
theorem cd_dvm : CallD X E (.builtin "divmod") fDvm := fun pins s σ H xs us Q I r ⟨F, ds, z, sub, px, e, k⟩ => by
  unfold fDvm at e
  split at e
  · rename_i i j
    by_cases c : 0 < j ∧ j < 1073741824
    · rw [if_pos c] at e
      cases e
      obtain ⟨v, u, rfl, pv, pu⟩ := pks2 px
      exact call_dvmF pins s σ H _ us Q I r ⟨i, j, by rw [pv.int, pu.int], c, finT sub k (.cons (.int _) (.cons (.int _) .nil))⟩
    · rw [if_neg c] at e; cases e
  · cases e
/-! ### star arguments -/
def aStar (c : CE) (r : CA) : CA := fun G C => match c G C with
  | some (.ex e, C1) => some (.ex e, C1)
  | some (.v d, C1) => (seqD d).bind fun ds => (r G C1).map fun p => match p.1 with
    | .ok xs => (.ok (ds.map Sv.v ++ xs), p.2)
    | .ex e => (.ex e, p.2)
  | _ => none
theorem svs_of {F : Hp} {as : List Addr} : ∀ {vs : List V} {ds : List D}, Ats E F vs ds → SvsAt E F as vs (ds.map Sv.v)
  | _, _, .nil => .nil
  | _, _, .cons h r => .cons h (svs_of r)
theorem svs_app {F : Hp} {as : List Addr} : ∀ {vs ws : List V} {xs ys : List Sv}, SvsAt E F as vs xs → SvsAt E F as ws ys → SvsAt E F as (vs ++ ws) (xs ++ ys)
  | _, _, _, _, .nil, s => s
  | _, _, _, _, .cons h r, s => .cons h (svs_app r s)
theorem av_star {e : Expr} {es : List Expr} {p : Pos} {c : CE} {ca : CA} (hK : X.K = E.K) (he : PE X e (rE E B W c)) (hr : PA X es (rA E B W tru ca)) (hs : starEach (.Starred e p :: es) X.env = (true, eval e X.env) :: starEach es X.env := by rfl) : PA X (.Starred e p :: es) (rA E B W tru (aStar c ca)) :=
  PA.weak (StX.pa_star he hr hs) fun σ H QA ⟨F, as, G, C, r, C', wd, sr, _, e, po⟩ => by
    unfold aStar at e
    cases q : c G C with
    | none => simp only [q] at e; cases e
    | some pr =>
      obtain ⟨x, C1⟩ := pr
      simp only [q] at e
      refine ⟨F, as, G, C, x, C1, wd, sr, trivial, q, fun F' H' s w => ?_⟩
      cases x with
      | ex er => cases e; exact po F' H' s w
      | c k => cases e
      | n o => cases e
      | v d =>
        intro v av
        simp only at e
        cases q2 : seqD d with
        | none => rw [q2] at e; cases e
        | some ds =>
          rw [q2] at e
          simp only [Option.bind_some] at e
          have main : ∀ (a : Addr) (vs : List V), v = .ref a → (SqT X.K H' a vs ∨ SqL X.K H' a vs) → Ats E F' vs ds → ∃ p xs, v = V.ref p ∧ (SqT X.K H' p xs ∨ SqL X.K H' p xs) ∧ rA E B W tru ca σ H' fun ys H2 => QA (xs ++ ys) H2 := fun a vs ev hs at_ => by
            refine ⟨a, vs, ev, hs, ?_⟩
            cases q3 : ca G C1 with
            | none => rw [q3] at e; cases e
            | some p3 =>
              obtain ⟨r3, C3⟩ := p3
              rw [q3] at e
              refine ⟨F', as, G, C1, r3, C3, w, sr.mv s (List.prefix_refl _), trivial, q3, fun F2 H2 s2 w2 => ?_⟩
              cases r3 with
              | ex er => cases e; exact po F2 H2 (s.tr s2) w2
              | ok xs => cases e; exact fun ws aw => po F2 H2 (s.tr s2) w2 (vs ++ ws) (svs_app (svs_of (at_.mv s2)) aw)
          cases av with
          | lst h r1 => cases q2; exact main _ _ rfl (.inr (w.sub.seq (SqL.of h))) r1
          | tup h r1 => cases q2; exact main _ _ rfl (.inl (by rw [hK]; exact w.sub.tupS h)) r1
          | _ => cases q2
/-- f(e, .., *y) -/
theorem ev_fnS {k n : Nat} {f : Addr} {fd : FuncData} {ps : List Str} {x : Str} {p pos : Pos} {e : Expr} {es : List Expr} {ca : CA} {m : List D → Option Rv} (Fn : FnOk X.prog X.w X.K X.mg X.base (L2.CX X.prog X.w) k f fd ps (spP E n m)) (tk : Takes X W) (fm : Fm n m) (hr : Room k X.A) (hg : Gl X x) (hm : X.mg x = some (.ref f)) (hk : PySem.W.keepIn X.K (.ref f) = true) (hb : Binds X.K fd ps [])
    (ha : PA X (e :: es) (rA E B W tru ca)) (hdb : (x == ("__debug__" : Str)) = false := by decide) (he : starEach (e :: es) X.env = (false, eval e X.env) :: starEach es X.env := by rfl) (hst : (backTo pos (starEach es X.env)).any (·.1) = true := by rfl) :
    PE X (.Call (.Name x p) (e :: es) [] pos) (rE E B W (cFn m ca)) := ⟨fun pins s σ H Q I h => by
  have h := rE_fn fm.len h
  refine wpAny_Call_Name_kw (ld_glob I hg hm ?_ hdb)
  refine PySem.W.callWith_S2 (h₀ := X.base) I.ok.mod.kin hk (thn (ha.run pos pins s σ H _ I h) fun us s1 ⟨vs, H1, I1, r, q⟩ => ⟨I1.kIn, wpAny_call ?_⟩) he hst
  have q : spP E n m (vs ++ []) H1 Q (WE W σ) := q
  rw [List.append_nil] at q
  have z : (us ++ []).length = ps.length := by rw [List.append_nil, ← r.length]; exact Fn.len _ _ _ _ q
  have bd := hb s1 us I1.kIn z
  rw [List.append_nil] at bd
  refine codeAny_mono (Fn.run X.A X.stack s1 H1 ⟨us, []⟩ us vs Q (WE W σ) hr I1.env0 bd r q) fun res s2 h3 => ?_
  cases res with
  | error u => exact passAt tk σ pins H1 s1 _ s2 I1 h3
  | ok fl =>
    cases fl with
    | ret u => exact I1.after h3
    | next => exact False.elim h3
    | brk => exact False.elim h3
    | cont => exact False.elim h3⟩
end
end TL
set_option Elab.async false
set_option linter.all false
set_option maxRecDepth 100000
set_option maxHeartbeats 1000000
/-! Vi: comprehensions with two fors. -/
namespace TL
open PySem PySem.Spec PyProof.Rows L2 Gd
def lpC2 (tg : CT) (tt : CE) (ci1 : CI) (tg1 : CT) (tt1 el : CE) (vs1 : List Nat) : List D → Sl → Cs → List D → Option (List D × Cs)
  | [], _, C, acc => some (acc, C)
  | d :: ds, G, C, acc => (tg d G).bind fun G1 => match tt G1 C with
    | some (.v (.bl true), C1) => match ci1 G1 C1 with
      | some (.ok ds1, C2) => (lpC tg1 tt1 el ds1 (wipeG G1 vs1) C2 acc).bind fun p => lpC2 tg tt ci1 tg1 tt1 el vs1 ds G p.2 p.1
      | _ => none
    | some (.v (.bl false), C1) => lpC2 tg tt ci1 tg1 tt1 el vs1 ds G C1 acc
    | _ => none
def cLc2 (ci : CI) (tg : CT) (tt : CE) (ci1 : CI) (tg1 : CT) (tt1 el : CE) (vs vs1 : List Nat) : CE := fun G C => match ci G C with
  | some (.ok ds, C1) => (lpC2 tg tt ci1 tg1 tt1 el vs1 ds (wipeG G vs) C1 []).map fun p => (.n (.lst p.1), p.2)
  | some (.ex e, C1) => some (.ex e, C1)
  | none => none
section
variable {X : Cx} {E : Ev} {B : Bs} {W : WX}
/-- the inner walk -/
theorem inner {t : CT} {g : TG} {tt el : CE} {vs : List Nat} {TTr : TT} {TEr : TE} {σ : L2.St} {Dd : Addr} {as : List Addr} {Nx : Hp → Prop} (hg : TgOk E g t) (hw : TgW g vs)
    (hTT : ∀ B' σ H Q, rT E B' nev tt σ H Q → TTr σ H Q) (hTE : ∀ B' σ H Q, rE E B' nev el σ H Q → TEr σ H Q) (nD : Dd ∉ as) (bD : B.H0 Dd = none) (f0D : B.F0 Dd = none)
    {F0 H0 : Hp} {G : Sl} {C0 : Cs} {acc0 l0 : List D} {Cl : Cs} {xs0 : List V} {ds : List D} {J : It} (w0 : Wd E B H0 F0 as C0) (sr : Sr E F0 as σ G) (jo : JOk E J F0 ds) (h0 : H0 Dd = some (.lst xs0)) (fD0 : F0 Dd = none) (a0 : Ats E F0 xs0 acc0) (ql : lpC t tt el ds (wipeG G vs) C0 acc0 = some (l0, Cl))
    (fin : ∀ F H xs, Wd E B H F as Cl → Sm F0 F → H Dd = some (.lst xs) → F Dd = none → Ats E F xs l0 → Nx H) :
    ∃ W1 : Nat → Nat → Hp → Prop, (∃ m, W1 0 m H0) ∧ ∀ j k H, W1 j k H → (J.stop j H ∧ Nx H) ∨ (J.go j H ∧ ∃ Nx1 : Hp → Prop, (∀ H', Nx1 H' → ∃ k', k' < k ∧ W1 (j + 1) k' H') ∧ ∀ x H', J.yld j H x H' → g x (wipe σ vs) H' fun σ3 H5 => wipe σ3 vs = wipe σ vs ∧ TTr σ3 H5 fun b H6 =>
        if b = true then TEr σ3 H6 fun y H7 => ∃ acc, H7 Dd = some (.lst acc) ∧ acc.length < sizeLine ∧ Nx1 (upd H7 Dd (.lst (acc ++ [y]))) else Nx1 H6) := by
  have srw := sr.wipe vs
  let N1 : Nat → Hp → Prop := fun i H => ∃ F C acc xs, Wd E B H F as C ∧ Sm F0 F ∧ H Dd = some (.lst xs) ∧ F Dd = none ∧ Ats E F xs acc ∧ lpC t tt el (ds.drop i) (wipeG G vs) C acc = some (l0, Cl)
  refine ⟨fun i m H => i + m = ds.length ∧ N1 i H, ⟨ds.length, by omega, F0, C0, acc0, xs0, w0, Sm.refl _, h0, fD0, a0, by rw [List.drop_zero]; exact ql⟩, ?_⟩
  rintro i m H1 ⟨him, F1, C2, acc, xs, w1, s1, hD1, fD1, ax, e1⟩
  have jj := jo F1 H1 i s1 w1.sub
  by_cases hi : i < ds.length
  · right
    obtain ⟨go, yl⟩ := jj.1 hi
    refine ⟨go, N1 (i + 1), fun H2 z => ⟨m - 1, by omega, by omega, z⟩, fun x H2 y => ?_⟩
    obtain ⟨d, F3, ed, gr, axd⟩ := yl x H2 y
    have w3 := w1.gr gr
    have hD3 : H2 Dd = some (.lst xs) := gr.h _ _ hD1 fD1 (fun _ z => by cases z)
    have fD3 : F3 Dd = none := gr.stay hD1 (fun _ z => by cases z) fD1
    rw [List.drop_eq_getElem_cons hi] at e1
    have ed2 : ds[i] = d := by
      rw [List.getElem?_eq_getElem hi] at ed
      exact Option.some.inj ed
    rw [ed2] at e1
    unfold lpC at e1
    cases qt : t d (wipeG G vs) with
    | none => rw [qt] at e1; cases e1
    | some G2 =>
      rw [qt] at e1
      simp only [Option.bind_some] at e1
      suffices key : g x (wipe σ vs) H2 (fun σ3 H3 => TTr σ3 H3 fun b H4 => if b = true then TEr σ3 H4 fun y H5 => ∃ acc, H5 Dd = some (.lst acc) ∧ acc.length < sizeLine ∧ N1 (i + 1) (upd H5 Dd (.lst (acc ++ [y]))) else N1 (i + 1) H4) by
        have z := hw _ _ _ _ key
        rw [wipe_wipe] at z
        exact z
      refine hg F3 H2 as (wipe σ vs) (wipeG G vs) G2 x d _ gr.sub axd (srw.mv (s1.tr gr.f) (List.prefix_refl _)) qt fun σ3 sr3 => ?_
      refine hTT ⟨upd B.H0 Dd (.lst xs), B.F0, B.own⟩ _ _ _ ?_
      cases qb : tt G2 C2 with
      | none => rw [qb] at e1; cases e1
      | some pb =>
        obtain ⟨rt, C4⟩ := pb
        rw [qb] at e1
        refine ⟨F3, as, G2, C2, rt, C4, w3.side hD3 fD3 nD bD, sr3, qb, ?_⟩
        cases rt with
        | ex er => cases e1
        | c k => cases e1
        | n o => cases e1
        | v db =>
          cases db with
          | bl b =>
            cases b with
            | false =>
              intro F5 H5 s5 w5
              obtain ⟨w6, hD5, fD5⟩ := w5.unside (B0 := H5) (fun _ z => by cases z) bD f0D nD
              exact ⟨F5, C4, acc, xs, w6, (s1.tr gr.f).tr s5, hD5, fD5, (ax.mv gr.f).mv s5, e1⟩
            | true =>
              intro F5 H5 s5 w5
              simp only at e1
              cases qe : el G2 C4 with
              | none => rw [qe] at e1; cases e1
              | some pe =>
                obtain ⟨re, C6⟩ := pe
                rw [qe] at e1
                show TEr σ3 H5 _
                refine hTE ⟨upd B.H0 Dd (.lst xs), B.F0, B.own⟩ _ _ _ ⟨F5, as, G2, C4, re, C6, w5, sr3.mv s5 (List.prefix_refl _), trivial, qe, fun F7 H7 s7 w7 => ?_⟩
                cases re with
                | ex er => cases e1
                | c k => cases e1
                | n o => cases e1
                | v d' =>
                  intro v7 a7
                  simp only at e1
                  by_cases hf : acc.length < 100000
                  · rw [if_pos hf] at e1
                    obtain ⟨w8, hD8, fD8⟩ := w7.unside (B0 := H5) (fun _ z => by cases z) bD f0D nD
                    have ax8 := ((ax.mv gr.f).mv s5).mv s7
                    refine ⟨xs, hD8, ?_, F7, C6, acc ++ [d'], xs ++ [v7], w8.out fD8 nD bD _ (.inr ⟨_, hD8⟩), ((s1.tr gr.f).tr s5).tr s7, upd_same, fD8, ax8.app (.cons a7 .nil), e1⟩
                    rw [ax8.len]
                    exact Nat.lt_of_lt_of_le hf (by decide)
                  · rw [if_neg hf] at e1; cases e1
          | _ => cases e1
  · left
    refine ⟨jj.2 (by omega), ?_⟩
    rw [List.drop_eq_nil_of_le (by omega)] at e1
    cases e1
    exact fin F1 H1 xs w1 s1 hD1 fD1 ax
theorem rE_lc2 {ci ci1 : CI} {t t1 : CT} {g g1 : TG} {tt tt1 el : CE} {vs vs1 : List Nat} {TTr TT1 : TT} {TI1 : TI} {TEr : TE} {σ : L2.St} {H : Hp} {Q : VK} (hg : TgOk E g t) (hw : TgW g vs) (hg1 : TgOk E g1 t1) (hw1 : TgW g1 vs1)
    (hTT : ∀ B' σ H Q, rT E B' nev tt σ H Q → TTr σ H Q) (hTI : ∀ B' σ H R, rI E B' nev ci1 σ H R → TI1 σ H R) (hTT1 : ∀ B' σ H Q, rT E B' nev tt1 σ H Q → TT1 σ H Q) (hTE : ∀ B' σ H Q, rE E B' nev el σ H Q → TEr σ H Q)
    (h : rE E B W (cLc2 ci t tt ci1 t1 tt1 el vs vs1) σ H Q) : tLc2 (rI E B W ci) g TTr TI1 g1 TT1 TEr vs vs1 σ H Q := by
  obtain ⟨F, as, G, C, r, C', wd, sr, _, e, po⟩ := h
  unfold cLc2 at e
  cases q : ci G C with
  | none => simp only [q] at e; cases e
  | some p =>
    obtain ⟨r1, C1⟩ := p
    simp only [q] at e
    refine ⟨F, as, G, C, r1, C1, wd, sr, q, ?_⟩
    cases r1 with
    | ex er => cases e; exact fun F' H' cls dx s w a => po.ex s w a
    | ok ds =>
      simp only at e
      intro F' H' J s w jo Dd hD
      have fD : F' Dd = none := fresh_F w.sub hD
      have nD : Dd ∉ as := fun z => (w.there Dd z).ne hD
      have bD : B.H0 Dd = none := w.nobase hD
      have f0D : B.F0 Dd = none := w.f0.none fD
      have w0 : Wd E B (upd H' Dd (.lst [])) F' as C1 := w.out fD nD bD _ (.inl hD)
      have srw := (sr.mv s (List.prefix_refl as)).wipe vs
      cases ql : lpC2 t tt ci1 t1 tt1 el vs1 ds (wipeG G vs) C1 [] with
      | none => rw [ql] at e; cases e
      | some pl =>
      obtain ⟨l0, Cl⟩ := pl
      rw [ql] at e
      cases e
      let Nx : Nat → Hp → Prop := fun i H => ∃ F C acc xs, Wd E B H F as C ∧ Sm F' F ∧ H Dd = some (.lst xs) ∧ F Dd = none ∧ Ats E F xs acc ∧ lpC2 t tt ci1 t1 tt1 el vs1 (ds.drop i) (wipeG G vs) C acc = some (l0, Cl) ∧ PoE E B W F as Cl σ (.n (.lst l0)) Q
      refine ⟨fun i m H => i + m = ds.length ∧ Nx i H, ⟨ds.length, by omega, F', C1, [], [], w0, Sm.refl _, upd_same, fD, .nil, by rw [List.drop_zero]; exact ql, po.imp s⟩, ?_⟩
      rintro i m H1 ⟨him, F1, C2, acc, xs, w1, s1, hD1, fD1, ax, e1, po1⟩
      have jj := jo F1 H1 i s1 w1.sub
      by_cases hi : i < ds.length
      · right
        obtain ⟨go, yl⟩ := jj.1 hi
        refine ⟨go, Nx (i + 1), fun H2 z => ⟨m - 1, by omega, by omega, z⟩, fun x H2 y => ?_⟩
        obtain ⟨d, F3, ed, gr, axd⟩ := yl x H2 y
        have w3 := w1.gr gr
        have hD3 : H2 Dd = some (.lst xs) := gr.h _ _ hD1 fD1 (fun _ z => by cases z)
        have fD3 : F3 Dd = none := gr.stay hD1 (fun _ z => by cases z) fD1
        rw [List.drop_eq_getElem_cons hi] at e1
        have ed2 : ds[i] = d := by
          rw [List.getElem?_eq_getElem hi] at ed
          exact Option.some.inj ed
        rw [ed2] at e1
        unfold lpC2 at e1
        cases qt : t d (wipeG G vs) with
        | none => rw [qt] at e1; cases e1
        | some G2 =>
          rw [qt] at e1
          simp only [Option.bind_some] at e1
          refine hw _ _ _ _ ?_ |> fun z => by rw [wipe_wipe] at z; exact z
          refine hg F3 H2 as (wipe σ vs) (wipeG G vs) G2 x d _ gr.sub axd (srw.mv (s1.tr gr.f) (List.prefix_refl _)) qt fun σ3 sr3 => ?_
          refine hTT ⟨upd B.H0 Dd (.lst xs), B.F0, B.own⟩ _ _ _ ?_
          cases qb : tt G2 C2 with
          | none => rw [qb] at e1; cases e1
          | some pb =>
            obtain ⟨rt, C4⟩ := pb
            rw [qb] at e1
            refine ⟨F3, as, G2, C2, rt, C4, w3.side hD3 fD3 nD bD, sr3, qb, ?_⟩
            cases rt with
            | ex er => cases e1
            | c k => cases e1
            | n o => cases e1
            | v db =>
              cases db with
              | bl b =>
                cases b with
                | false =>
                  intro F5 H5 s5 w5
                  obtain ⟨w6, hD5, fD5⟩ := w5.unside (B0 := H5) (fun _ z => by cases z) bD f0D nD
                  exact ⟨F5, C4, acc, xs, w6, (s1.tr gr.f).tr s5, hD5, fD5, (ax.mv gr.f).mv s5, e1, po1.imp (gr.f.tr s5)⟩
                | true =>
                  intro F5 H5 s5 w5
                  simp only at e1
                  cases qi : ci1 G2 C4 with
                  | none => rw [qi] at e1; cases e1
                  | some pi1 =>
                    obtain ⟨ri, C6⟩ := pi1
                    rw [qi] at e1
                    refine hTI ⟨upd B.H0 Dd (.lst xs), B.F0, B.own⟩ _ _ _ ⟨F5, as, G2, C4, ri, C6, w5, sr3.mv s5 (List.prefix_refl _), qi, ?_⟩
                    cases ri with
                    | ex er => cases e1
                    | ok ds1 =>
                      simp only at e1
                      intro F7 H7 J1 s7 w7 jo1
                      obtain ⟨w8, hD8, fD8⟩ := w7.unside (B0 := H5) (fun _ z => by cases z) bD f0D nD
                      cases qn : lpC t1 tt1 el ds1 (wipeG G2 vs1) C6 acc with
                      | none => rw [qn] at e1; cases e1
                      | some pn =>
                        obtain ⟨acc2, C8⟩ := pn
                        rw [qn] at e1
                        simp only [Option.bind_some] at e1
                        exact inner hg1 hw1 hTT1 hTE nD bD f0D w8 ((sr3.mv s5 (List.prefix_refl _)).mv s7 (List.prefix_refl _)) jo1 hD8 fD8 (((ax.mv gr.f).mv s5).mv s7) qn fun F9 H9 xs9 w9 s9 hD9 fD9 a9 =>
                          ⟨F9, C8, acc2, xs9, w9, (((s1.tr gr.f).tr s5).tr s7).tr s9, hD9, fD9, a9, e1, po1.imp (((gr.f.tr s5).tr s7).tr s9)⟩
              | _ => cases e1
      · left
        refine ⟨jj.2 (by omega), ?_⟩
        rw [List.drop_eq_nil_of_le (by omega)] at e1
        cases e1
        exact po1.back (fun _ z => by cases z) (Sm.refl _) w1 ⟨Dd, _, rfl, hD1, fD1, nD, bD, xs, rfl, ax⟩
theorem pis {X : Cx} {tg e : Expr} {c : CI} (h : ∀ B', PI X tg e (rI E B' nev c)) : PI X tg e (fun σ H R => ∃ B', rI E B' nev c σ H R) := ⟨fun pins s σ H R I ⟨B', q⟩ => (h B').run pins s σ H R I q⟩
theorem ev_lc2 {elt tg iter tg1 iter1 : Expr} {ifs ifs1 : List Expr} {scope : Scope} {own : List (Str × Nat)} {vs1 : List Nat} {pos : Pos} {ci ci1 : CI} {t t1 : CT} {g g1 : TG} {tt tt1 el : CE} (hc : X.calm = true) (hN : X.N.Nodup) (hi : PI X tg iter (rI E B W ci)) (ok : BlkOk X.N X.env.scope scope own) (hv : ∀ i ∈ vs1, i ∈ own.map (·.2))
    (hg : ∀ (s : Shared) (H : Hp) (C : Addr) (cl : List (Str × Addr)) (fp : List Addr), PG (X.blk s H scope (compEnvC scope cl C X.env) fp) tg g) (tgo : TgOk E g t) (tgw : TgW g (own.map (·.2)))
    (ht : ∀ (s : Shared) (H : Hp) (C : Addr) (cl : List (Str × Addr)) (fp : List Addr), PTs (X.blk s H scope (compEnvC scope cl C X.env) fp) ifs (fun σ H Q => ∃ B', rT E B' nev tt σ H Q))
    (hi1 : ∀ (s : Shared) (H : Hp) (C : Addr) (cl : List (Str × Addr)) (fp : List Addr), PI (X.blk s H scope (compEnvC scope cl C X.env) fp) tg1 iter1 (fun σ H R => ∃ B', rI E B' nev ci1 σ H R))
    (hg1 : ∀ (s : Shared) (H : Hp) (C : Addr) (cl : List (Str × Addr)) (fp : List Addr), PG (X.blk s H scope (compEnvC scope cl C X.env) fp) tg1 g1) (tgo1 : TgOk E g1 t1) (tgw1 : TgW g1 vs1)
    (ht1 : ∀ (s : Shared) (H : Hp) (C : Addr) (cl : List (Str × Addr)) (fp : List Addr), PTs (X.blk s H scope (compEnvC scope cl C X.env) fp) ifs1 (fun σ H Q => ∃ B', rT E B' nev tt1 σ H Q))
    (he : ∀ (s : Shared) (H : Hp) (C : Addr) (cl : List (Str × Addr)) (fp : List Addr), PE (X.blk s H scope (compEnvC scope cl C X.env) fp) elt (fun σ H Q => ∃ B', rE E B' nev el σ H Q)) (hs : ∀ x, foldedSetIterable iter X.env x = pure x := by intro _; rfl) (hs1 : ∀ env x, foldedSetIterable iter1 env x = pure x := by intro _ _; rfl) :
    PE X (.ListComp elt [⟨tg, iter, ifs, 0⟩, ⟨tg1, iter1, ifs1, 0⟩] scope pos) (rE E B W (cLc2 ci t tt ci1 t1 tt1 el (own.map (·.2)) vs1)) :=
  PE.weak (pe_lc2 hc hN hi ok hv hg ht hi1 hg1 ht1 he hs hs1) fun _ _ _ h => rE_lc2 tgo tgw tgo1 tgw1 (fun B' _ _ _ z => ⟨B', z⟩) (fun B' _ _ _ z => ⟨B', z⟩) (fun B' _ _ _ z => ⟨B', z⟩) (fun B' _ _ _ z => ⟨B', z⟩) h
end
end TL
set_option Elab.async false
set_option linter.all false
set_option maxRecDepth 100000
set_option maxHeartbeats 1000000
/-! Vj: own classes: attributes, properties, methods, making, fields set. -/
namespace TL
open PySem PySem.Spec PyProof.Rows L2 Gd
section
variable {E : Ev} {F : Hp}
theorem atf_get : ∀ {vs : List (Str × V)} {fs : List (Str × D)} {f : Str}, Atf E F vs fs → (∀ d, fs.lookup f = some d → ∃ v, vs.lookup f = some v ∧ At E F v d) ∧ (fs.lookup f = none → vs.lookup f = none)
  | _, _, f, .nil => ⟨(fun d h => by cases h), fun _ => rfl⟩
  | _, _, f, .cons (n := n) (v := v) (vs := vs) (d := d) (ds := ds) h r => by
    obtain ⟨i1, i2⟩ := atf_get (f := f) r
    by_cases e : f == n
    · simp only [List.lookup, e]
      exact ⟨(fun d' q => by cases q; exact ⟨v, rfl, h⟩), (fun q => by cases q)⟩
    · have e : (f == n) = false := by simpa using e
      simp only [List.lookup, e]
      exact ⟨i1, i2⟩
def putD (f : Str) (v : D) : List (Str × D) → List (Str × D)
  | [] => [(f, v)]
  | (g, x) :: r => if g = f then (g, v) :: r else (g, x) :: putD f v r
theorem atf_put {f : Str} {v : V} {d : D} (a : At E F v d) : ∀ {vs : List (Str × V)} {fs : List (Str × D)}, Atf E F vs fs → Atf E F (putF f v vs) (putD f d fs)
  | _, _, .nil => .cons a .nil
  | _, _, .cons (n := n) h r => by
    unfold putF putD
    by_cases e : n = f
    · rw [if_pos e, if_pos e]; exact .cons a r
    · rw [if_neg e, if_neg e]; exact .cons h (atf_put a r)
theorem atf_len : ∀ {vs : List (Str × V)} {fs : List (Str × D)}, Atf E F vs fs → vs.length = fs.length
  | _, _, .nil => rfl
  | _, _, .cons _ r => congrArg (· + 1) (atf_len r)
/-- an instance, as it stands -/
theorem Pk.obj {H : Hp} {v : V} {c : Nat} {fs : List (Str × D)} (s : Same F H) (h : Pk E F H v (.obj c fs)) : ∃ a dx vs, v = .ref a ∧ H a = some (.ins (E.cm c) dx vs) ∧ Atf E F vs fs := by
  rcases h with h | ⟨a, o, c', rfl, h, r, e⟩
  · cases h with
    | obj h r => exact ⟨_, _, _, rfl, s _ _ h, r⟩
  · cases c' with
    | ins c2 fs2 => cases e; obtain ⟨dx, vs, rfl, r⟩ := r; exact ⟨a, dx, vs, rfl, h, r⟩
    | lst _ => cases e
    | dic _ => cases e
end
abbrev AE := Nat × Option (List D → Option Rv)
/-- what an attribute is, by class -/
structure AtOk (P : Program) (w : World) (K : PySem.W.Frag) (mg : Str → Option Value) (base : Heap) (E : Ev) (k : Nat) (tbl : List AE) (f : Str) : Prop where
  fld : ∀ c, tbl.lookup c = some none → Cls K (E.cm c) ∧ NoAttr K (E.cm c) f
  prp : ∀ c m, tbl.lookup c = some (some m) → Cls K (E.cm c) ∧ ∃ p g fd, PropOf K (E.cm c) f p g ∧ FnOk P w K mg base (L2.CX P w) k g fd ["self"] (spP E 1 m) ∧ Binds K fd ["self"] []
def rvOk : Option Rv → Option D
  | some (.ok d) => some d
  | _ => none
/-- e.f -/
def atR (tbl : List AE) (f : Str) (x : Sv) (d : D) : Option D := match d with
  | .obj c fs => match tbl.lookup c with
    | some none => fs.lookup f
    | some (some m) => match x with
      | .v _ => rvOk (m [d])
      | .c _ => none
    | none => none
  | _ => none
def cAt (tbl : List AE) (f : Str) (co : CE) : CE := fun G C => bv (co G C) fun x C1 => out ((peek C1 x).bind fun d => (atR tbl f x d).map Rd1.v) C1
theorem passF {X : Cx} : Passes (L2.CX X.prog X.w) X (fun _ _ _ => False) := fun pins σ H s e s' I c => passAt (W := fun _ _ _ _ => False) LamX.takes0 σ pins H s e s' I c
section
variable {X : Cx} {E : Ev} {B : Bs} {W : WX} {e o value : Expr} {es : List Expr} {co ce : CE} {ca : CA} {f : Str} {pos pos' : Pos}
theorem ev_at {k : Nat} {tbl : List AE} (ok : AtOk X.prog X.w X.K X.mg X.base E k tbl f) (hr : Room (k + 1) X.A) (he : PE X e (rE E B W co)) (hb : attributeBase e f X.env (eval e X.env) = eval e X.env := by rfl) : PE X (.Attribute e f pos) (rE E B W (cAt tbl f co)) := ⟨fun pins s σ H Q I h => by
  refine attr_of hb (thn (he.run pins s σ H _ I (rF_bv (c := co) (k := fun G x C1 => out ((peek C1 x).bind fun d => (atR tbl f x d).map Rd1.v) C1) mo_tru h)) fun u s1 ⟨v, H1, I1, rv, x, h1⟩ => ?_)
  obtain ⟨F, as, G, C, z, wd, sr, ⟨_, ax⟩, q, kk⟩ := rF_out (f := fun _ C1 => (peek C1 x).bind fun d => (atR tbl f x d).map Rd1.v) h1
  cases q1 : peek C x with
  | none => rw [q1] at q; cases q
  | some d =>
    rw [q1] at q
    simp only [Option.bind_some] at q
    cases q2 : atR tbl f x d with
    | none => rw [q2] at q; cases q
    | some d' =>
      rw [q2] at q
      cases q
      have px := peek_pk wd ax q1
      cases d with
      | obj c fs =>
        obtain ⟨a, dx, vs, rfl, ha, at_⟩ := px.obj wd.sub
        cases (show u = Value.ref a from rv)
        unfold atR at q2
        simp only at q2
        cases q3 : tbl.lookup c with
        | none => rw [q3] at q2; cases q2
        | some oe =>
          rw [q3] at q2
          cases oe with
          | none =>
            obtain ⟨h1, h2⟩ := ok.fld c q3
            obtain ⟨v', l, a'⟩ := (atf_get at_).1 d' q2
            exact getattr_ok I1 ha h1 h2 l fun u' s2 I2 ru => ⟨v', H1, I2, ru, fin0 wd.sub kk a'⟩
          | some m =>
            cases x with
            | c i => cases q2
            | v dd =>
              cases q1
              obtain ⟨hc, p, g, fd, hp, Fn, hbn⟩ := ok.prp c m q3
              refine getprop_ok (E := fun _ _ _ => False) (dvs := []) (ds := []) I1 ha hc hp Fn hr hbn .nil passF ?_
              simp only at q2
              cases q4 : m [.obj c fs] with
              | none => rw [q4] at q2; cases q2
              | some rv' =>
                cases rv' with
                | ex er => rw [q4] at q2; cases q2
                | ok d2 =>
                  rw [q4] at q2
                  cases q2
                  exact ⟨F, [.obj c fs], .ok d', rfl, wd.sub, wd.pr, .cons ax .nil, q4, fun F' H' v g a => kk F' H' v g a⟩
      | _ => cases q2⟩
/-! ### o.m(..) -/
structure MtOk (P : Program) (w : World) (K : PySem.W.Frag) (mg : Str → Option Value) (base : Heap) (E : Ev) (k n : Nat) (tbl : List (Nat × (List D → Option Rv))) (m : Str) : Prop where
  ex : ∀ c mm, tbl.lookup c = some mm → Cls K (E.cm c) ∧ ∃ g fd ps, Meth K (E.cm c) m g ∧ FnOk P w K mg base (L2.CX P w) k g fd ps (spP E n mm) ∧ Binds K fd ps [] ∧ Fm n mm
def mtR (tbl : List (Nat × (List D → Option Rv))) (nm : Str) (x : Sv) (ys : List Sv) : Option Rv := match x with
  | .v (.obj c fs) => match tbl.lookup c with
    | some mm => if fs.lookup nm = none then (vals ys).bind fun ds => mm (.obj c fs :: ds) else none
    | none => none
  | _ => none
def isObjM (tbl : List (Nat × (List D → Option Rv))) (nm : Str) : Sv → Bool
  | .v (.obj c fs) => (tbl.lookup c).isSome && (fs.lookup nm).isNone
  | _ => false
def cMth (tbl : List (Nat × (List D → Option Rv))) (nm : Str) (co : CE) (ca : CA) : CE := fun G C => bv (co G C) fun x C1 => if isObjM tbl nm x = true then ba (ca G C1) fun ys C2 => (mtR tbl nm x ys).map fun r => (Rv.rs r, C2) else none
theorem ev_mth {k n : Nat} {tbl : List (Nat × (List D → Option Rv))} {m : Str} {apos : Pos} {pl : Sem Bool} (ok : MtOk X.prog X.w X.K X.mg X.base E k n tbl m) (tk : Takes X W) (hr : Room k X.A) (ho : PE X o (rE E B W co)) (ha : PA X (e :: es) (rA E B W tru ca))
    (hst : starEach (e :: es) X.env = (false, eval e X.env) :: starEach es X.env := by rfl) (hpl : (backTo pos (starEach es X.env)).any (·.1) = false := by rfl)
    (ht : eval (.Call (.Attribute o m apos) (e :: es) [] pos) X.env = (do
      let ov ← eval o X.env
      standAt apos.atName
      let (f, first) ← holding [ov] (getMethod ov m pl)
      callWith pos f first (backTo pos (starEach (e :: es) X.env)) (backToKw pos (keywordEach [] X.env))) := by rfl) :
    PE X (.Call (.Attribute o m apos) (e :: es) [] pos) (rE E B W (cMth tbl m co ca)) := ⟨fun pins s σ H Q I h => by
  refine PySem.W.methodCall_KW (pl := pl) (thn (ho.run pins s σ H _ I (rF_bv (c := co) (k := fun G x C1 => if isObjM tbl m x = true then ba (ca G C1) fun ys C2 => (mtR tbl m x ys).map fun r => (Rv.rs r, C2) else none) mo_tru h)) fun u s1 ⟨v, H1, I1, rv, x, F, as, G, C, r, C', wd, sr, ⟨_, ax⟩, e, po⟩ => ?_) ht
  by_cases hx : isObjM tbl m x = true
  · simp only [if_pos hx] at e
    cases x with
    | c i => cases hx
    | v d =>
      cases d with
      | obj c fs =>
        obtain ⟨a, dx, vs, rfl, hins, at_⟩ := (show Pk E F H1 v (.obj c fs) from .inl ax).obj wd.sub
        cases (show u = Value.ref a from rv)
        unfold isObjM at hx
        rw [Bool.and_eq_true, Option.isSome_iff_exists, Option.isNone_iff_eq_none] at hx
        obtain ⟨⟨mm, q3⟩, q4⟩ := hx
        obtain ⟨hc, g, fd, ps, hm, Fn, hb, fm⟩ := ok.ex c mm q3
        refine getmeth_ok I1 hins hc hm ((atf_get at_).2 q4) ?_
        have h2 : rF E B W (fun F as => At E F (.ref a) (.obj c fs)) (fun G C => ba (ca G C) ((fun (G : Sl) ys C2 => (mtR tbl m (.v (.obj c fs)) ys).map fun r => (Rv.rs r, C2)) G)) σ H1 Q := ⟨F, as, G, C, r, C', wd, sr, ax, e, po⟩
        refine PySem.W.callWith_K (first := [.ref a]) (h₀ := X.base) I.ok.mod.kin hm.kp (thn (ha.run pos pins s1 σ H1 _ I1 (rF_ba (fun F F' as s h => At.mv s h) h2)) fun us s2 ⟨ws, H2, I2, rr, ys, F2, as2, G2, C2, r2, C3, wd2, sr2, ⟨a2, ay⟩, e2, po2⟩ => ⟨I2.kIn, ?_⟩) hst hpl
        have e2 : (mtR tbl m (.v (.obj c fs)) ys).map (fun r => (Rv.rs r, C2)) = some (r2, C3) := e2
        unfold mtR at e2
        simp only [q3, if_pos q4] at e2
        cases q5 : vals ys with
        | none => rw [q5] at e2; cases e2
        | some ds =>
          rw [q5] at e2
          simp only [Option.bind_some] at e2
          cases q6 : mm (.obj c fs :: ds) with
          | none => rw [q6] at e2; cases e2
          | some rv2 =>
            rw [q6] at e2
            cases e2
            refine run_fnS (E := WE W) (us := .ref a :: us) (vs := .ref a :: ws) Fn hr hb (passAt tk σ) I2 (.cons rfl rr) ⟨F2, .obj c fs :: ds, rv2, fm.len _ _ q6, wd2.sub, wd2.pr, .cons a2 (vals_at ay q5), q6, ?_⟩
            cases rv2 with
            | ok d => exact fun F' H' v g a => po2.back (fun _ z => by cases z) g.f (wd2.gr g) a
            | ex er => exact fun F' H' cls dx g a => po2.ex g.f (wd2.gr g) a
      | _ => cases hx
  · simp only [if_neg hx] at e
    cases e⟩
end
end TL
set_option Elab.async false
set_option linter.all false
set_option maxRecDepth 100000
set_option maxHeartbeats 1000000
/-! Vk: an own class made: __init__ over a new instance; its fields set. -/
namespace TL
open PySem PySem.Spec PyProof.Rows L2 Gd
/-- self._f = .. -/
def insOf : Option (Option Cell) → Option (Nat × List (Str × D))
  | some (some (.ins c fs)) => some (c, fs)
  | _ => none
def setF (cs : List Nat) (f : Str) (x : Sv) (d : D) (C : Cs) : Option Cs := match x with
  | .c k => (insOf C[k]?).bind fun p => if p.1 ∈ cs ∧ p.2.length < 100 then some (C.set k (some (.ins p.1 (putD f d p.2)))) else none
  | .v _ => none
def fldK (cs : List Nat) (f : Str) (y x : Sv) (G : Sl) (C2 : Cs) : So := match y with
  | .v d => (setF cs f x d C2).map fun C3 => (.nx, G, C3)
  | .c _ => none
def sFldM (cs : List Nat) (f : Str) (co ce : CE) : CS := fun G C => sv (ce G C) G fun y C1 => sv (co G C1) G fun x C2 => fldK cs f y x G C2
theorem insOf_of {o : Option (Option Cell)} {p : Nat × List (Str × D)} (h : insOf o = some p) : o = some (some (.ins p.1 p.2)) := by
  cases o with
  | none => cases h
  | some c =>
    cases c with
    | none => cases h
    | some c =>
      cases c with
      | ins c fs => cases h; rfl
      | lst _ => cases h
      | dic _ => cases h
section
variable {X : Cx} {E : Ev} {B : Bs} {W : WX} {e o value : Expr} {es : List Expr} {co ce : CE} {ca : CA} {f : Str} {pos pos' : Pos}
theorem sv_fld {cs : List Nat} (hK : X.K = E.K) (ok : ∀ c ∈ cs, Cls E.K (E.cm c) ∧ NoAttr E.K (E.cm c) f) (ho : PE X o (rE E B W co)) (hv : PE X value (rE E B W ce)) (hs : swapsWith value (some (.Attribute o f pos')) pos.line X.env = pure false := by rfl) : PS X (.Assign [.Attribute o f pos'] value pos) (rS E B W (sFldM cs f co ce)) :=
  PS.weak (ps_fld ho hv hs) fun D σ H ⟨F, as, G, C, oo, G', C', wd, sr, e, po⟩ => by
    refine rF_imp (rS_sv2 (Φ := tru) (c := ce) (k := fun G y C1 => sv (co G C1) G fun x C2 => fldK cs f y x G C2) mo_tru ⟨F, as, G, C, oo, G', C', wd, sr, trivial, e, po⟩) fun y1 H1 ⟨y, h1⟩ => ?_
    refine rF_imp (rS_sv2 (c := co) (k := fun G x C2 => fldK cs f y x G C2) (mo_and mo_tru) h1) fun x1 H2 ⟨x, h2⟩ => ?_
    obtain ⟨F, as, G, C, oo, G', C', wd, sr, ⟨⟨_, ay⟩, ax⟩, e, po⟩ := h2
    cases y with
    | c i => cases e
    | v d =>
      have e : (setF cs f x d C).map (fun C3 => (Out.nx, G, C3)) = some (oo, G', C') := e
      cases x with
      | v _ => cases e
      | c k =>
        unfold setF at e
        simp only at e
        cases q : insOf C[k]? with
        | none => rw [q] at e; cases e
        | some p =>
          obtain ⟨c, fs⟩ := p
          rw [q] at e
          simp only [Option.bind_some] at e
          by_cases hc : c ∈ cs ∧ fs.length < 100
          · rw [if_pos hc] at e
            cases e
            obtain ⟨a, ha, rfl⟩ := ax
            have q2 := insOf_of q
            obtain ⟨fa, ho, h4, dx, vs, rfl, r⟩ := wd.at_ k a _ ha q2
            obtain ⟨k1, k2⟩ := ok c hc.1
            exact ⟨a, E.cm c, dx, vs, rfl, h4, by rw [hK]; exact k1, by rw [hK]; exact k2, by rw [atf_len r]; exact Nat.lt_of_lt_of_le hc.2 (by decide), po F _ as σ (Sm.refl F) (List.prefix_refl _) (wd.put ha q2 ⟨dx, _, rfl, atf_put ay r⟩) sr⟩
          · rw [if_neg hc] at e; cases e
end
/-! ### __init__ -/
inductive Ri2 where
  | ok (fs : List (Str × D)) | ex (e : Er)
def spI (E : Ev) (c n : Nat) (m : List D → Option Ri2) : Sp := fun vs H Q Ex => ∃ F a dx ws ds r, vs = .ref a :: ws ∧ ds.length + 1 = n ∧ Same F H ∧ Pre E F H ∧ F a = none ∧ H a = some (.ins (E.cm c) dx []) ∧ Ats E F ws ds ∧ m ds = some r ∧ match r with
  | .ok fs => ∀ F' H' dx' us, GrB E a F H F' H' → H' a = some (.ins (E.cm c) dx' us) → Atf E F' us fs → Q .non H'
  | .ex e => ∀ F' H' cls d, GrB E a F H F' H' → ErAt E F' H' cls d e → Ex cls d H'
theorem spI_len {E : Ev} {c n : Nat} {m : List D → Option Ri2} {vs : List V} {H : Hp} {Q : VK} {Ex : XK} (h : spI E c n m vs H Q Ex) : vs.length = n := by
  obtain ⟨F, a, dx, ws, ds, r, rfl, hn, _, _, _, _, at_, _⟩ := h
  rw [List.length_cons, at_.len, hn]
def outI (c : Nat) : So → Option Ri2
  | some (o, _, C) => (insOf (C : Cs)[0]?).bind fun p => if p.1 = c then match o with
      | .nx => some (.ok p.2)
      | .rt .non => some (.ok p.2)
      | .ex e => some (.ex e)
      | _ => none else none
  | none => none
def runI (c n a : Nat) (b : CS) (ds : List D) : Option Ri2 := if ds.length + 1 = a then outI c (b (slotsC n ds) [some (.ins c [])]) else none
theorem runI_len {c n a : Nat} {b : CS} {ds : List D} {r : Ri2} (h : runI c n a b ds = some r) : ds.length + 1 = a := by
  unfold runI at h
  by_cases q : ds.length + 1 = a
  · exact q
  · rw [if_neg q] at h; cases h
section
variable {E : Ev}
theorem wdI_start {F H : Hp} {k dx : Addr} {c : Nat} (s : Same F H) (p : Pre E F H) (fk : F k = none) (hk : H k = some (.ins (E.cm c) dx [])) : Wd E ⟨er H, F, [k]⟩ H F [k] [some (.ins c [])] where
  sub := s
  f0 := Sm.refl F
  keep := fun _ _ e _ _ _ => (er_some.mp e).1
  th0 := fun _ h => th_of h
  tab := p.tab
  nt := p.nt
  new := fun a o e z => by
    have z : F a = none := z
    rw [e] at z; cases z
  len := rfl
  nd := by simp
  pre := List.prefix_refl _
  fresh := fun a h => .inl h
  there := fun a h => by rw [List.mem_singleton.mp h]; exact ⟨_, hk, fun _ z => by cases z⟩
  at_ := fun i b c' e1 e2 => by
    cases i with
    | zero => cases e1; cases e2; exact ⟨fk, _, hk, dx, [], rfl, .nil⟩
    | succ i => simp at e1
theorem wdI_end {F H F' H' : Hp} {k : Addr} {as : List Addr} {C : Cs} {c : Nat} {fs : List (Str × D)} (w : Wd E ⟨er H, F, [k]⟩ H' F' as C) (e : C[0]? = some (some (.ins c fs))) : GrB E k F H F' H' ∧ ∃ dx us, H' k = some (.ins (E.cm c) dx us) ∧ Atf E F' us fs := by
  have a0 : as[0]? = some k := by
    obtain ⟨t, rfl⟩ := w.pre
    rfl
  obtain ⟨f, o, h, dx, us, rfl, a⟩ := w.at_ 0 k _ a0 e
  exact ⟨⟨w.sub, w.f0, fun a o n e z nt => w.keep a o (er_some.mpr ⟨e, nt⟩) (by simpa using n) z nt, w.new, fun a h => w.th0 a h.er, w.tab, w.nt⟩, dx, us, h, a⟩
theorem body_I {N : List Str} {c a : Nat} {b : CS} {vs : List V} {H : Hp} {Q : VK} {Ex : XK} (h : spI E c a (runI c N.length a b) vs H Q Ex) : ∃ F k, rS E ⟨er H, F, [k]⟩ (fun cls d _ H' => Ex cls d H') b { nx := fun _ G => Q .non G, rt := Q } (L2.start N vs) H := by
  obtain ⟨F, k, dx, ws, ds, r, rfl, hn, s, pr, fk, hk, aw, e, po⟩ := h
  refine ⟨F, k, F, [k], slotsC N.length ds, [some (.ins c [])], ?_⟩
  unfold runI at e
  rw [if_pos hn] at e
  cases q : b (slotsC N.length ds) [some (.ins c [])] with
  | none => rw [q] at e; cases e
  | some p =>
    obtain ⟨o, G', C'⟩ := p
    rw [q] at e
    refine ⟨o, G', C', wdI_start s pr fk hk, slotsC_sr aw, rfl, fun F' H' as' σ' s' p' w sr' => ?_⟩
    unfold outI at e
    simp only at e
    cases q0 : insOf C'[0]? with
    | none => rw [q0] at e; cases e
    | some pp =>
      obtain ⟨c', fs⟩ := pp
      rw [q0] at e
      simp only [Option.bind_some] at e
      by_cases hc : c' = c
      · rw [if_pos hc] at e
        subst hc
        obtain ⟨g, dx', us, h1, a1⟩ := wdI_end w (insOf_of q0)
        cases o with
        | nx => cases e; exact po F' H' dx' us g h1 a1
        | rt d =>
          cases d with
          | non =>
            cases e
            intro v av
            cases av
            exact po F' H' dx' us g h1 a1
          | _ => cases e
        | bk => cases e
        | ct => cases e
        | ex er => cases e; exact fun cls dx a => po F' H' cls dx g a
      · rw [if_neg hc] at e; cases e
end
section
variable {P : Program} {w : World} {K : PySem.W.Frag} {mg : Str → Option Value} {base : Heap}
theorem ok_I {E : Ev} {x qual : Str} {st : Stmt} {f : Addr} {fd : FuncData} {N ps : List Str} {k c : Nat} {b : CS} (F : Fun K x qual st f fd) (S : FnScope N ps (defScope st))
    (hb : ∀ (cdv : Value) (A : Around) (outer : List Env) (s : Shared) (H F0 : Hp) (o : Addr) (Ex : XK), Room k (A.deeper (envOfC qual (defScope st) s.heap.objs.size f cdv)) →
      PSs (cxOf (L2.CX P w) P w K mg base N qual (defScope st) f cdv A outer s H Ex) (defBody st) (rS E ⟨er H, F0, [o]⟩ (fun cls d _ H' => Ex cls d H') b)) : FnOk P w K mg base (L2.CX P w) (k + 1) f fd ps (spI E c ps.length (runI c N.length ps.length b)) :=
  F.okX S (fun _ _ _ _ h => spI_len h) fun cdv A outer s H vs Q Ex hr h => by
    obtain ⟨F0, o, h⟩ := body_I h
    exact ⟨_, hb cdv A outer s H F0 o Ex hr, h⟩
end
/-! ### C(..) -/
def Ri2.rs (c : Nat) : Ri2 → Rs
  | .ok fs => .v (.obj c fs)
  | .ex e => .ex e
def cMake (c : Nat) (m : List D → Option Ri2) (ca : CA) : CE := fun G C => ba (ca G C) fun xs C1 => ((vals xs).bind m).map fun r => (Ri2.rs c r, C1)
structure FmI (n : Nat) (m : List D → Option Ri2) : Prop where
  len : ∀ ds r, m ds = some r → ds.length + 1 = n
theorem fm_I {c n a : Nat} {b : CS} : FmI a (runI c n a b) := ⟨fun _ _ h => runI_len h⟩
section
variable {X : Cx} {E : Ev} {B : Bs} {W : WX} {e : Expr} {es : List Expr} {ca : CA} {p pos : Pos}
/-- what stands behind the making of an instance at a, whose dict is at dx -/
theorem GrB.made {F H F' H' : Hp} {a dx : Addr} {o : HO} (no : NT o) (s : Same F H) (ha : H a = none) (hd : H dx = none) (ne : dx ≠ a) (g : GrB E a F (upd (upd H dx (.own a)) a o) F' H') : Gr E F H F' H' where
  sub := g.sub
  f := g.f
  h := fun b u e z nt => g.h b u (by rintro rfl; rw [ha] at e; cases e) (by rw [upd_ne (by rintro rfl; rw [ha] at e; cases e), upd_ne (by rintro rfl; rw [hd] at e; cases e)]; exact e) z nt
  n := fun b u e z => by
    have q := g.n b u e z
    cases w : er H b with
    | none => rfl
    | some o =>
      obtain ⟨h1, h2⟩ := er_some.mp w
      have e1 : b ≠ a := by rintro rfl; rw [ha] at h1; cases h1
      have e2 : b ≠ dx := by rintro rfl; rw [hd] at h1; cases h1
      exact absurd q (Th.er ⟨o, by rw [upd_ne e1, upd_ne e2]; exact h1, h2⟩)
  th := fun b n => g.th b ((n.upd (by intro _ z; cases z)).upd no)
  tab := fun _ => g.tab
  nt := fun _ => g.nt
theorem ev_make {k n c : Nat} {f : Addr} {fd : FuncData} {ps : List Str} {x : Str} {m : List D → Option Ri2} (M : Mk X.K (E.cm c) f) (Fn : FnOk X.prog X.w X.K X.mg X.base (L2.CX X.prog X.w) k f fd ps (spI E c n m)) (fm : FmI n m) (tk : Takes X W) (hr : Room (k + 1) X.A) (hg : Gl X x) (hm : X.mg x = some (.ref (E.cm c))) (hb : Binds X.K fd ps [])
    (ha : PA X (e :: es) (rA E B W tru ca)) (hdb : (x == ("__debug__" : Str)) = false := by decide)
    (he : starEach (e :: es) X.env = (false, eval e X.env) :: starEach es X.env := by rfl) (hpl : (backTo pos (starEach es X.env)).any (·.1) = false := by rfl) : PE X (.Call (.Name x p) (e :: es) [] pos) (rE E B W (cMake c m ca)) := ⟨fun pins s σ H Q I h => by
  refine wpAny_Call_Name_kw (ld_glob I hg hm ?_ hdb)
  refine PySem.W.callWith_K (h₀ := X.base) I.ok.mod.kin M.kp (thn (ha.run pos pins s σ H _ I (rF_ba (ca := ca) (k := fun G xs C1 => ((vals xs).bind m).map fun r => (Ri2.rs c r, C1)) mo_tru h)) fun us s1 ⟨vs, H1, I1, rr, xs, F, as, G, C, r, C', wd, sr, ⟨_, ax⟩, q, po⟩ => ⟨I1.kIn, ?_⟩) he hpl
  have q : ((vals xs).bind m).map (fun r => (Ri2.rs c r, C)) = some (r, C') := q
  cases q1 : vals xs with
  | none => rw [q1] at q; cases q
  | some ds =>
    rw [q1] at q
    simp only [Option.bind_some] at q
    cases q2 : m ds with
    | none => rw [q2] at q; cases q
    | some ri =>
      rw [q2] at q
      cases q
      have av := vals_at ax q1
      have I2 := L2.Inv.made (C := E.cm c) I1
      have h1 : H1 (s1.heap.objs.size + 1) = none := I1.hok.fresh (Nat.le_succ _)
      have h2 : H1 s1.heap.objs.size = none := I1.hok.fresh (Nat.le_refl _)
      have ne : s1.heap.objs.size ≠ s1.heap.objs.size + 1 := Nat.ne_of_lt (Nat.lt_succ_self _)
      generalize hH2 : upd (upd H1 s1.heap.objs.size (.own (s1.heap.objs.size + 1))) (s1.heap.objs.size + 1) (.ins (E.cm c) s1.heap.objs.size []) = H2 at I2
      have up : ∀ b u, H1 b = some u → H2 b = some u := fun b u z => by
        rw [← hH2, upd_ne (ne_of_none z h1), upd_ne (ne_of_none z h2)]
        exact z
      have sub2 : Same F H2 := fun b u z => up b u (wd.sub b u z)
      have hins : H2 (s1.heap.objs.size + 1) = some (.ins (E.cm c) s1.heap.objs.size []) := by rw [← hH2, upd_same]
      have r2 : Vals (V.ref (s1.heap.objs.size + 1) :: vs) (Value.ref (s1.heap.objs.size + 1) :: us) := .cons rfl rr
      have made : ∀ {F' H' : Hp}, GrB E (s1.heap.objs.size + 1) F H2 F' H' → Gr E F H1 F' H' := fun g => GrB.made (o := .ins (E.cm c) s1.heap.objs.size []) (by intro _ z; cases z) wd.sub h1 h2 ne (by rw [hH2]; exact g)
      have fa := fresh_F wd.sub h1
      have hsp : spI E c n m (V.ref (s1.heap.objs.size + 1) :: vs) H2 (fun v H3 => v = .non ∧ Q (.ref (s1.heap.objs.size + 1)) H3) (WE W σ) := by
        refine ⟨F, _, _, vs, ds, ri, rfl, fm.len _ _ q2, sub2, ⟨wd.tab.ext up, wd.nt⟩, fa, hins, av, q2, ?_⟩
        cases ri with
        | ex er => exact fun F' H' cls d g a => po.ex g.f (wd.gr (made g)) a
        | ok fs =>
          intro F' H' dx' us' g hi at_
          refine ⟨rfl, ?_⟩
          have w1 := wd.gr (made g)
          have bn := wd.nobase h1
          have na : s1.heap.objs.size + 1 ∉ as := fun z => (wd.there _ z).ne h1
          obtain ⟨w2, sm⟩ := w1.frozen hi (fun _ z => by cases z) bn fun k hk c' _ => na (List.mem_of_getElem? hk)
          exact po.back (fun _ z => by cases z) (g.f.tr sm) w2 (.obj upd_same (at_.mv sm))
      have hl : (Value.ref (s1.heap.objs.size + 1) :: us ++ []).length = ps.length := by
        rw [List.append_nil]
        have e := r2.length
        rw [Fn.len _ _ _ _ hsp] at e
        exact e.symm
      have bd := hb _ (Value.ref (s1.heap.objs.size + 1) :: us) I2.kIn hl
      rw [List.append_nil] at bd
      refine wpAny_call (make_map (f := f) I1.kIn M.makes M.init (beq_iff_eq.mp M.fn) (codeAny_mono (Fn.run _ X.stack _ _ ⟨Value.ref (s1.heap.objs.size + 1) :: us, []⟩ (Value.ref (s1.heap.objs.size + 1) :: us) _ _ (WE W σ) (hr.make (E.cm c) us [])
        (I2.env0.make (E.cm c) us []) bd r2 hsp) fun rs s' hq' => ?_))
      cases rs with
      | error er => exact passAt tk σ pins _ _ er s' I2 hq'
      | ok fl =>
        cases fl with
        | ret u =>
          obtain ⟨v, H', I3, rv, ev, q3⟩ := I2.after hq'
          subst ev
          exact ⟨rv, ⟨V.ref (s1.heap.objs.size + 1), H', I3, rfl, q3⟩⟩
        | next => exact False.elim hq'
        | brk => exact False.elim hq'
        | cont => exact False.elim hq'⟩
end
end TL
set_option Elab.async false
set_option linter.all false
set_option maxRecDepth 100000
set_option maxHeartbeats 1000000
/-! Vl: own classes: x in o, o[i]. -/
namespace TL
open PySem PySem.Spec PyProof.Rows L2 Gd
def rDV (E : Ev) (f : D → D → Option Rd1) : R2 := fun x y H Q => ∃ F dx dy z, Same F H ∧ Pre E F H ∧ At E F x dx ∧ At E F y dy ∧ f dx dy = some z ∧ ∀ F' H' v, Gr E F H F' H' → R1At E F H F' H' v z → Q v H'
def vv (f : D → D → Option Rd1) (x y : Sv) : Option Rd1 := match x, y with
  | .v dx, .v dy => f dx dy
  | _, _ => none
def c2v (f : D → D → Option Rd1) (a b : CE) : CE := fun G C => bv (a G C) fun x C1 => bv (b G C1) fun y C2 => out (vv f x y) C2
abbrev MT := List (Nat × (List D → Option Rv))
structure DnOk (P : Program) (w : World) (K : PySem.W.Frag) (mg : Str → Option Value) (base : Heap) (E : Ev) (k n : Nat) (tbl : MT) (name : Str) : Prop where
  ex : ∀ c m, tbl.lookup c = some m → ∃ g fd ps, Dun K (E.cm c) g name ∧ FnOk P w K mg base (L2.CX P w) k g fd ps (spP E n m) ∧ Binds K fd ps [] ∧ Fm n m
def blOf : Option Rv → Option Bool
  | some (.ok (.bl b)) => some b
  | _ => none
theorem blOf_of {r : Option Rv} {b : Bool} (h : blOf r = some b) : r = some (.ok (.bl b)) := by
  cases r with
  | none => cases h
  | some r =>
    cases r with
    | ex e => cases h
    | ok d =>
      cases d with
      | bl b' => cases h; rfl
      | _ => cases h
def fInO (neg : Bool) (tbl : MT) (dx dy : D) : Option Rd1 := match dy with
  | .obj c fs => (tbl.lookup c).bind fun m => (blOf (m [.obj c fs, dx])).map fun b => .v (.bl (ngB neg b))
  | _ => none
theorem fInO_inv {neg : Bool} {tbl : MT} {dx dy : D} {z : Rd1} (h : fInO neg tbl dx dy = some z) : ∃ c fs m b, dy = .obj c fs ∧ tbl.lookup c = some m ∧ m [.obj c fs, dx] = some (.ok (.bl b)) ∧ z = .v (.bl (ngB neg b)) := by
  cases dy with
  | obj c fs =>
    have h : (tbl.lookup c).bind (fun m => (blOf (m [.obj c fs, dx])).map fun b => Rd1.v (.bl (ngB neg b))) = some z := h
    cases q : tbl.lookup c with
    | none => rw [q] at h; cases h
    | some m =>
      rw [q] at h
      simp only [Option.bind_some] at h
      cases q2 : blOf (m [.obj c fs, dx]) with
      | none => rw [q2] at h; cases h
      | some b => rw [q2] at h; cases h; exact ⟨c, fs, m, b, rfl, q, blOf_of q2, rfl⟩
  | _ => cases h
section
variable {X : Cx} {E : Ev} {B : Bs} {W : WX} {a b : Expr} {ca cb : CE} {pos : Pos}
theorem two_V {f : D → D → Option Rd1} {σ : L2.St} {H : Hp} {Q : VK} (h : rE E B W (c2v f ca cb) σ H Q) : tOp (rDV E f) (rE E B W ca) (rE E B W cb) σ H Q := by
  refine rF_imp (rF_bv (c := ca) (k := fun G x C1 => bv (cb G C1) fun y C2 => out (vv f x y) C2) mo_tru h) fun v H1 ⟨x, h1⟩ => ?_
  refine rF_imp (rF_bv (c := cb) (k := fun G y C2 => out (vv f x y) C2) (mo_and mo_tru) h1) fun u H2 ⟨y, h2⟩ => ?_
  obtain ⟨F, as, G, C, z, wd, sr, ⟨⟨_, ax⟩, ay⟩, e, k⟩ := rF_out (f := fun _ _ => vv f x y) h2
  cases x with
  | c i => cases e
  | v dx =>
    cases y with
    | c i => cases e
    | v dy => exact ⟨F, dx, dy, z, wd.sub, wd.pr, ax, ay, e, k⟩
theorem od_inO {k : Nat} {tbl : MT} (ok : DnOk X.prog X.w X.K X.mg X.base E k 2 tbl "__contains__") (hr : Room k X.A) : OpR X (compareOp .In) (rDV E (fInO false tbl)) := fun pins s σ H x y v u Q I rx ry ⟨F, dx, dy, z, sub, pr, ax, ay, e, kk⟩ => by
  obtain ⟨c, fs, m, b, rfl, q, hm, rfl⟩ := fInO_inv e
  obtain ⟨g, fd, ps, Dn, Fn, hb, _⟩ := ok.ex c m q
  obtain ⟨a, dx', vs, rfl, ha, _⟩ := (show Pk E F H y (.obj c fs) from .inl ay).obj sub
  exact op_inOwn Fn hr hb passF Dn pins s σ H x _ v u Q I rx ry ⟨a, dx', vs, rfl, ha, F, [.obj c fs, dx], .ok (.bl b), rfl, sub, pr, .cons ay (.cons ax .nil), hm, fun F' H' v g av => ⟨b, at_bl av, kk F' H' _ g (.bl _)⟩⟩
theorem od_ninO {k : Nat} {tbl : MT} (ok : DnOk X.prog X.w X.K X.mg X.base E k 2 tbl "__contains__") (hr : Room k X.A) : OpR X (compareOp .NotIn) (rDV E (fInO true tbl)) := fun pins s σ H x y v u Q I rx ry ⟨F, dx, dy, z, sub, pr, ax, ay, e, kk⟩ => by
  obtain ⟨c, fs, m, b, rfl, q, hm, rfl⟩ := fInO_inv e
  obtain ⟨g, fd, ps, Dn, Fn, hb, _⟩ := ok.ex c m q
  obtain ⟨a, dx', vs, rfl, ha, _⟩ := (show Pk E F H y (.obj c fs) from .inl ay).obj sub
  exact op_notInOwn Fn hr hb passF Dn pins s σ H x _ v u Q I rx ry ⟨a, dx', vs, rfl, ha, F, [.obj c fs, dx], .ok (.bl b), rfl, sub, pr, .cons ay (.cons ax .nil), hm, fun F' H' v g av => ⟨b, at_bl av, kk F' H' _ g (.bl _)⟩⟩
/-! ### o[i] -/
def ixR (tbl : MT) (x y : Sv) (C : Cs) : Ro := match x, y with
  | .v (.obj c fs), .v dy => (tbl.lookup c).bind fun m => (m [.obj c fs, dy]).map fun r => (Rv.rs r, C)
  | _, _ => none
def cIxO (tbl : MT) (ca cb : CE) : CE := fun G C => bv (ca G C) fun x C1 => bv (cb G C1) fun y C2 => ixR tbl x y C2
theorem own_callAt {k : Nat} {f : Addr} {fd : FuncData} {ps : List Str} {sp : Sp} {Ee : L2.St → XK} {A : Around} {pins : List (Addr × Obj)} {s : Shared} {σ : L2.St} {H : Hp} {vs : List V} {us : List Value} {Q : VK} (Fn : FnOk X.prog X.w X.K X.mg X.base (L2.CX X.prog X.w) k f fd ps sp) (sb : Sub X k A) (hb : Binds X.K fd ps []) (hx : PassesAt (L2.CX X.prog X.w) X σ (Ee σ))
    (I : L2.Inv X pins σ H s) (rv : Vals vs us) (hsp : sp vs H Q (Ee σ)) : wpAny (model X.prog X.w) A (call (.ref f) us) (EP X pins σ Q) X.xe s := by
  have e0 : Env0 X.prog X.w X.K X.mg X.base A X.stack s H := by
    have e := I.env0
    exact ⟨by rw [sb.fr]; exact e.frames, e.mod, e.bs, e.bsz, e.funs, e.frf, e.hok, e.bare⟩
  have bd := hb s us I.kIn (by rw [List.append_nil, ← rv.length]; exact Fn.len _ _ _ _ hsp)
  rw [List.append_nil] at bd
  refine wpAny_call (codeAny_mono (Fn.run A X.stack s H ⟨us, []⟩ us vs Q (Ee σ) sb.room e0 bd rv hsp) fun r s' hq => ?_)
  cases r with
  | error e => exact hx pins H s e s' I hq
  | ok fl =>
    cases fl with
    | ret w => exact I.after hq
    | next => exact False.elim hq
    | brk => exact False.elim hq
    | cont => exact False.elim hq
theorem ev_ixO {k : Nat} {tbl : MT} (ok : DnOk X.prog X.w X.K X.mg X.base E k 2 tbl "__getitem__") (tk : Takes X W) (hr : Room (k + 1) X.A) (ea : PE X a (rE E B W ca)) (eb : PE X b (rE E B W cb))
    (hsl : ∀ o i, subscripted b true o i = runValue (.builtin "lifetime.subscript" ⟨[o, i], []⟩) := by intro _ _; with_unfolding_all rfl) : PE X (.Subscript a b pos) (rE E B W (cIxO tbl ca cb)) := ⟨fun pins s σ H Q I h => by
  have h1 : rE E B W ca σ H fun v H1 => ∃ x : Sv, rF E B W (fun F as => tru F as ∧ SvAt E F as v x) (fun G C => bv (cb G C) fun y C2 => ixR tbl x y C2) σ H1 Q := rF_bv (c := ca) (k := fun G x C1 => bv (cb G C1) fun y C2 => ixR tbl x y C2) mo_tru h
  have h2 : rE E B W ca σ H fun v H1 => rE E B W cb σ H1 fun u H2 => ∃ x y : Sv, rF E B W (fun F as => (tru F as ∧ SvAt E F as v x) ∧ SvAt E F as u y) (fun G C => ixR tbl x y C) σ H2 Q := rF_imp h1 fun v H1 ⟨x, z⟩ => rF_imp (rF_bv (c := cb) (k := fun G y C2 => ixR tbl x y C2) (mo_and mo_tru) z) fun u H2 ⟨y, z⟩ => ⟨x, y, z⟩
  refine Subscript_ (binT ea eb I h2 fun v u s2 x y H2 I2 rx ry ⟨sx, sy, F, as, G, C, r, C', wd, sr, ⟨⟨_, ax⟩, ay⟩, e, po⟩ => ?_)
  cases sx with
  | c i => cases sy <;> cases e
  | v dx =>
    cases sy with
    | c i => cases dx <;> cases e
    | v dy =>
      cases dx with
      | obj c fs =>
        have e : (tbl.lookup c).bind (fun m => (m [.obj c fs, dy]).map fun r => (Rv.rs r, C)) = some (r, C') := e
        cases q : tbl.lookup c with
        | none => rw [q] at e; cases e
        | some m =>
          rw [q] at e
          simp only [Option.bind_some] at e
          cases q2 : m [.obj c fs, dy] with
          | none => rw [q2] at e; cases e
          | some rv =>
            rw [q2] at e
            cases e
            obtain ⟨g, fd, ps, Dn, Fn, hb, _⟩ := ok.ex c m q
            obtain ⟨o, dx', vs, rfl, ha, _⟩ := (show Pk E F H2 x (.obj c fs) from .inl ax).obj wd.sub
            cases (show v = Value.ref o from rx)
            obtain ⟨mA, J, _⟩ := ins_get I2.hok ha
            obtain ⟨od, J, _⟩ := J.look
            obtain ⟨mm, hF⟩ := I2.fr
            refine PySem.W.sub_K hF I2.ok.mod.kin J Dn.at_ Dn.fin Dn.fn (own_callAt (Ee := WE W) (vs := [.ref o, y]) Fn (Sub.in1 (⟨hr, rfl⟩ : Sub X (k + 1) X.A)) hb (passAt tk σ) I2 (.cons rfl (.cons ry .nil)) ⟨F, [.obj c fs, dy], rv, rfl, wd.sub, wd.pr, .cons ax (.cons ay .nil), q2, ?_⟩) (hsl _ _)
            cases rv with
            | ok d => exact fun F' H' v g a => po.back (fun _ z => by cases z) g.f (wd.gr g) a
            | ex er => exact fun F' H' cls dx g a => po.ex g.f (wd.gr g) a
      | _ => cases e⟩
end
end TL
set_option Elab.async false
set_option linter.all false
set_option maxRecDepth 100000
set_option maxHeartbeats 1000000
/-! Vm: raise; own comparisons. -/
namespace TL
open PySem PySem.Spec PyProof.Rows L2 Gd
def sRaise1 (c : Nat) (ce : CE) : CS := fun G C => sv (ce G C) G fun _ C1 => some (.ex (.mk c none), G, C1)
def rsI (c : Nat) (fl : Str) (x : Sv) (G : Sl) (C : Cs) : So := match x with
  | .v d => some (.ex (.mk c (some (fl, d))), G, C)
  | .c _ => none
def sRaiseI (c : Nat) (fl : Str) (ce : CE) : CS := fun G C => sv (ce G C) G fun x C1 => rsI c fl x G C1
section
variable {X : Cx} {E : Ev} {B : Bs} {W : WX} {e a b : Expr} {ce ca cb : CE} {pos : Pos}
theorem sv_raise1 {c : Nat} (hc : X.calm = true) (tk : Takes X W) (hp : PMk X e (fun σ H Q => rE E B W ce σ H fun _ H1 => Q (.ref (E.ce c)) none H1)) : PS X (.Raise (some e) none pos) (rS E B W (sRaise1 c ce)) := PS.weak (ps_raise hc tk hp) fun D σ H h => rF_imp (rS_sv h) fun v H1 ⟨x, F, as, G, C, o, G', C', wd, sr, a, e, po⟩ => by
  cases e
  exact po F H1 as σ (Sm.refl F) (List.prefix_refl _) wd sr _ _ ⟨rfl, rfl⟩
theorem sv_raiseI {c : Nat} {fl : Str} (hc : X.calm = true) (tk : Takes X W) (hp : PMk X e (fun σ H Q => rE E B W ce σ H fun y H1 => ∀ d, H1 d = none → Q (.ref (E.ce c)) (some d) (upd H1 d (.xd [(fl, y)])))) : PS X (.Raise (some e) none pos) (rS E B W (sRaiseI c fl ce)) := PS.weak (ps_raise hc tk hp) fun D σ H h => rF_imp (rS_sv h) fun v H1 ⟨x, F, as, G, C, o, G', C', wd, sr, a, e, po⟩ => by
  cases x with
  | c k => cases e
  | v d =>
    cases e
    intro dx hd
    have g : Gr E F H1 F (upd H1 dx (.xd [(fl, v)])) := Gr.newH wd.sub hd
    exact po F _ as σ (Sm.refl F) (List.prefix_refl _) (wd.gr g) sr _ _ ⟨rfl, dx, v, rfl, upd_same, a⟩
theorem ev_cmpV {op : CmpOp} {f : D → D → Option Rd1} (ho : OpR X (compareOp op) (rDV E f)) (ha : PE X a (rE E B W ca)) (hb : PE X b (rE E B W cb)) (hm : behindInMarks op b = false) : PE X (.Compare a [op] [b] pos) (rE E B W (c2v f ca cb)) :=
  PE.weak (pe_cmpR ho ha hb hm) fun _ _ _ h => two_V h
theorem tv_cmpV {op : CmpOp} {f : D → D → Option Rd1} (ho : OpR X (compareOp op) (rDV E f)) (ha : PE X a (rE E B W ca)) (hb : PE X b (rE E B W cb)) (hm : behindInMarks op b = false) : PT X (.Compare a [op] [b] pos) (rT E B W (c2v f ca cb)) :=
  PT.weak (pt_cmpR ho ha hb hm) fun _ _ _ h => two_V (rT_rE h)
/-- what an error class must have to be raised: no __init__ of its own -/
structure Er1 (K : PySem.W.Frag) (mg : Str → Option Value) (E : Ev) (x : Str) (c : Nat) : Prop where
  ex : ∃ (B newId initId : String) (bmB : List Value), PySem.ExcBaseFacts B newId initId bmB ∧ PySem.W.excIn K (E.ce c) bmB newId = true
  g : mg x = some (.ref (E.ce c))
  kp : PySem.W.keepIn K (.ref (E.ce c)) = true
  sb : PySem.W.subIn K (.ref (E.ce c)) (.type "BaseException") = some true
  ty : PySem.W.typeIn K (.ref (E.ce c)) = some (.type "type")
  db : (x == ("__debug__" : Str)) = false
/-- .. with one of one field -/
structure ErI (P : Program) (w : World) (K : PySem.W.Frag) (mg : Str → Option Value) (base : Heap) (E : Ev) (k : Nat) (x : Str) (c : Nat) (fl : Str) : Prop where
  ex : ∃ fI fd ps, Xc.Own K (E.ce c) fI ∧ FnOk P w K mg base (L2.CX P w) k fI fd ps (Xc.spInit K fl) ∧ PySem.W.findIn K (.ref (E.ce c)) fl = some none ∧ Binds K fd ps [] ∧ mg x = some (.ref (E.ce c)) ∧ (x == ("__debug__" : Str)) = false
theorem sv_rs1 {x : Str} {c : Nat} {p pos' : Pos} (T : Er1 X.K X.mg E x c) (hc : X.calm = true) (tk : Takes X W) (hg : Gl X x) (he : PE X e (rE E B W ce)) (hs : starEach [e] X.env = (false, eval e X.env) :: starEach [] X.env := by rfl) : PS X (.Raise (some (.Call (.Name x p) [e] [] pos')) none pos) (rS E B W (sRaise1 c ce)) :=
  let ⟨_, _, _, _, F, q⟩ := T.ex
  sv_raise1 hc tk (SkE.pmk_own1 F q T.g T.kp (raises_own T.sb T.ty) hg he hs T.db)
theorem sv_rsI {k : Nat} {x fl : Str} {c : Nat} {p pos' : Pos} (T : ErI X.prog X.w X.K X.mg X.base E k x c fl) (hc : X.calm = true) (tk : Takes X W) (hr : Room (k + 1) X.A) (hg : Gl X x) (he : PE X e (rE E B W ce)) (hs : starEach [e] X.env = (false, eval e X.env) :: starEach [] X.env := by rfl) : PS X (.Raise (some (.Call (.Name x p) [e] [] pos')) none pos) (rS E B W (sRaiseI c fl ce)) := by
  obtain ⟨fI, fd, ps, T1, Fn, hno, hb, hm, hd⟩ := T.ex
  exact sv_raiseI hc tk (Xc.pmk_ownI T1 Fn hno hr hb passF hg hm he hd hs)
end
end TL
set_option Elab.async false
set_option linter.all false
set_option maxRecDepth 100000
set_option maxHeartbeats 1000000
/-! Vn: a lambda handed to a def that tries it. -/
namespace TL
open PySem PySem.Spec PyProof.Rows L2 Gd LamX
section
variable {E : Ev} {B : Bs} {H H1 F : Hp} {as : List Addr} {C : Cs}
theorem Wd.ext (w : Wd E B H F as C) (e : ExtN H H1) (t : Tabs E.T H1) : Wd E B H1 F as C where
  sub := fun a u z => e a u (w.sub a u z) (w.nt a u z)
  f0 := w.f0
  keep := fun a o z n zf nt => e a o (w.keep a o z n zf nt) nt
  th0 := fun a h => let ⟨o, h1, h2⟩ := w.th0 a h; ⟨o, e a o h1 h2, h2⟩
  tab := t
  nt := w.nt
  new := w.new
  len := w.len
  nd := w.nd
  pre := w.pre
  fresh := w.fresh
  there := fun a h => let ⟨o, h1, h2⟩ := w.there a h; ⟨o, e a o h1 h2, h2⟩
  at_ := fun k a c e1 e2 => by
    obtain ⟨f, o, h1, h2⟩ := w.at_ k a c e1 e2
    exact ⟨f, o, e a o h1 (nt_ho h2), h2⟩
end
/-! ### repr of plain values -/
def shP (p : PyData) : Bool := p.showable && !p.hasDict && decide (p.depth < 60) && decide (p.shown.length ≤ 100000)
def reprD (d : D) : Option Str := match d with
  | .non => some "None"
  | .bl b => some (if b then "True" else "False")
  | .int i => if i.natAbs.log2 < 1920 then some (toString i) else none
  | .str x => if (reprText x).length ≤ 100000 then some (reprText x) else none
  | .tup _ => (toP d).bind fun p => if shP p = true then some p.shown else none
  | .lst _ => (toP d).bind fun p => if shP p = true then some p.shown else none
  | _ => none
theorem shP_of {K : PySem.W.Frag} {H : Hp} {a : Addr} {p : PyData} (h : Dp K H (.ref a) p) (s : shP p = true) : Xc.Sh K H (.ref a) p.shown := by
  unfold shP at s
  simp only [Bool.and_eq_true, Bool.not_eq_true', decide_eq_true_eq] at s
  exact .dat h s.1.1.1 s.1.1.2 s.1.2 (line5 s.2)
theorem sh_of {E : Ev} {F : Hp} {v : V} {d : D} {s : Str} (a : At E F v d) (e : reprD d = some s) : Xc.Sh E.K F v s := by
  have main : ∀ {a : Addr} {d : D}, At E F (.ref a) d → (toP d).bind (fun p => if shP p = true then some p.shown else none) = some s → Xc.Sh E.K F (.ref a) s := fun {a d} at_ e => by
    cases q : toP d with
    | none => rw [q] at e; cases e
    | some p =>
      rw [q] at e
      simp only [Option.bind_some] at e
      by_cases c : shP p = true
      · rw [if_pos c] at e; cases e; exact shP_of (at_dp at_ q) c
      · rw [if_neg c] at e; cases e
  cases a with
  | non => cases e; exact .non
  | bl b => cases e; exact .bl b
  | int i =>
    have e : (if i.natAbs.log2 < 1920 then some (toString i : Str) else none) = some s := e
    by_cases c : i.natAbs.log2 < 1920
    · rw [if_pos c] at e; cases e; exact .int i c
    · rw [if_neg c] at e; cases e
  | str x =>
    have e : (if (reprText x).length ≤ 100000 then some (reprText x) else none) = some s := e
    by_cases c : (reprText x).length ≤ 100000
    · rw [if_pos c] at e; cases e; exact .str x (line5 c)
    · rw [if_neg c] at e; cases e
  | tup h r f => exact main (.tup h r f) e
  | lst h r => exact main (.lst h r) e
  | _ => cases e
def fRepr (ds : List D) : Option Rd1 := match ds with
  | [d] => (reprD d).map fun s => .v (.str s)
  | _ => none
theorem cd_repr {X : Cx} {E : Ev} (hK : X.K = E.K) (hgd : X.A.guards = some []) (hu : X.A.units + 64 < cLine) : CallD X E (.builtin "repr") fRepr := fun pins s σ H xs us Q I r ⟨F, ds, z, sub, px, e, k⟩ => by
  unfold fRepr at e
  split at e
  · rename_i d
    cases q : reprD d with
    | none => rw [q] at e; cases e
    | some t =>
      rw [q] at e
      cases e
      obtain ⟨v, rfl, pv⟩ := pks1 px
      exact Xc.call_sh hgd hu pins s σ H _ us Q I r ⟨v, t, rfl, by rw [hK]; exact sh_of (pv.at sub) q, fin0 sub k (.str _)⟩
  · cases e
/-! ### what a trying def answers -/
inductive Hr where
  | lit (s : Str) | rep (pre f : Str)
def pickD (sub : Nat → Nat → Bool) : List (Nat × Hr) → Nat → Option (Str × D) → Option Str
  | [], _, _ => none
  | (c, h) :: r, e, pl => if sub e c = true then (match h with
      | .lit s => some s
      | .rep pre f => match pl with
        | some (f', d) => if f' = f ∧ e = c then (reprD d).bind fun t => if pre.length + t.length ≤ 100000 then some (pre ++ t) else none else none
        | none => none) else pickD sub r e pl
def pickH (E : Ev) : List (Nat × Hr) → Value → Option Addr → Hp → VK → Prop
  | [], _, _, _, _ => False
  | (c, h) :: r, cls, dx, H, Q => ∃ b, PySem.W.exmOne E.K cls (.ref (E.ce c)) = some b ∧ (b = true → match h with
      | .lit s => Q (.str s) H
      | .rep pre f => cls = .ref (E.ce c) ∧ ∃ dd v t, dx = some dd ∧ H dd = some (.xd [(f, v)]) ∧ Xc.Sh E.K H v t ∧ pre.length + t.length ≤ sizeLine ∧ Q (.str (pre ++ t)) H) ∧ (b = false → pickH E r cls dx H Q)
theorem pick_ok {E : Ev} {sub : Nat → Nat → Bool} {F H : Hp} {Q : VK} {cls : Value} {dx : Option Addr} {e : Nat} {pl : Option (Str × D)} {s : Str} (sb : Same F H) (er : ErAt E F H cls dx (.mk e pl)) (q : Q (.str s) H) : ∀ {hls : List (Nat × Hr)}, (∀ c ∈ hls.map (·.1), PySem.W.exmOne E.K (.ref (E.ce e)) (.ref (E.ce c)) = some (sub e c)) → pickD sub hls e pl = some s → pickH E hls cls dx H Q
  | [], _, h => by cases h
  | (c, h) :: r, ok, hp => by
    have ecls : cls = .ref (E.ce e) := by
      cases pl with
      | none => exact er.1
      | some p => exact er.1
    refine ⟨sub e c, by rw [ecls]; exact ok c List.mem_cons_self, fun hb => ?_, fun hb => pick_ok sb er q (fun c' m => ok c' (List.mem_cons_of_mem _ m)) (by unfold pickD at hp; rw [if_neg (by rw [hb]; decide)] at hp; exact hp)⟩
    unfold pickD at hp
    rw [if_pos hb] at hp
    cases h with
    | lit t => cases hp; exact q
    | rep pre f =>
      cases pl with
      | none => cases hp
      | some p =>
        obtain ⟨f', d⟩ := p
        have hp2 : (if f' = f ∧ e = c then (reprD d).bind fun t => if pre.length + t.length ≤ 100000 then some (pre ++ t) else none else none) = some s := hp
        clear hp
        by_cases z : f' = f ∧ e = c
        · rw [if_pos z] at hp2
          obtain ⟨rfl, rfl⟩ := z
          cases q2 : reprD d with
          | none => rw [q2] at hp2; cases hp2
          | some t =>
            rw [q2] at hp2
            simp only [Option.bind_some] at hp2
            by_cases hl : pre.length + t.length ≤ 100000
            · rw [if_pos hl] at hp2
              cases hp2
              obtain ⟨_, x, v, rfl, hx, av⟩ := er
              exact ⟨ecls, x, v, t, rfl, hx, sh_of (av.mv (.of sb)) q2, line5 hl, q⟩
            · rw [if_neg hl] at hp2; cases hp2
        · rw [if_neg z] at hp2; cases hp2
def TTmet (E : Ev) (hls : List (Nat × Hr)) (fine : Str) : (XK → Hp → VK → Prop) → Hp → VK → Prop := fun tl H Q => tl (fun cls dx H' => pickH E hls cls dx H' Q) H fun _ H' => Q (.str fine) H'
/-- the error, or that there is none -/
def cMet (errs : List Nat) (sub : Nat → Nat → Bool) (hls : List (Nat × Hr)) (fine : Str) (c : CE) : CE := fun G C => match c G C with
  | some (.ex (.mk e pl), C1) => if e ∈ errs then (pickD sub hls e pl).map fun s => (.v (.str s), C1) else none
  | some (_, C1) => some (.v (.str fine), C1)
  | none => none
theorem rE_met {E : Ev} {B : Bs} {W : WX} {errs : List Nat} {sub : Nat → Nat → Bool} {hls : List (Nat × Hr)} {fine : Str} {c : CE} {σ : L2.St} {H : Hp} {Q : VK} (ok : ∀ e ∈ errs, ∀ k ∈ hls.map (·.1), PySem.W.exmOne E.K (.ref (E.ce e)) (.ref (E.ce k)) = some (sub e k)) (h : rE E B W (cMet errs sub hls fine c) σ H Q) :
    tLam E.T (TTmet E hls fine) (fun Ex σ H Q => ∃ B', rE E B' (fun cls d _ H' => Ex cls d H') c σ H Q) σ H Q := by
  obtain ⟨F, as, G, C, r, C', wd, sr, _, e, po⟩ := h
  refine ⟨wd.tab, fun H1 eN t1 => ?_⟩
  unfold cMet at e
  cases q : c G C with
  | none => simp only [q] at e; cases e
  | some p =>
    obtain ⟨res, C1⟩ := p
    simp only [q] at e
    refine ⟨B, F, as, G, C, res, C1, wd.ext eN t1, sr, trivial, q, ?_⟩
    cases res with
    | ex er =>
      obtain ⟨en, pl⟩ := er
      simp only at e
      by_cases hm : en ∈ errs
      · rw [if_pos hm] at e
        cases q2 : pickD sub hls en pl with
        | none => rw [q2] at e; cases e
        | some s =>
          rw [q2] at e
          cases e
          exact fun F' H' s' w cls dx ea => pick_ok w.sub ea (po.back (fun _ z => by cases z) s' w (.str s)) (ok en hm) q2
      · rw [if_neg hm] at e; cases e
    | v d => cases e; exact fun F' H' s' w v a => po.back (fun _ z => by cases z) s' w (.str fine)
    | c k => cases e; exact fun F' H' s' w v a => po.back (fun _ z => by cases z) s' w (.str fine)
    | n o => cases e; exact fun F' H' s' w v a => po.back (fun _ z => by cases z) s' w (.str fine)
/-- the def that tries: what is known of it -/
structure MetDef (K : PySem.W.Frag) (mg : Str → Option Value) (x a : Str) (g : Addr) (Ng : List Str) (bg : List Stmt) (sg : Scope) (cdv : Value) : Prop where
  m : mg x = some (.ref g)
  k : PySem.W.keepIn K (.ref g) = true
  ex : ∃ (pg : Arguments) (dV kV doc pm ct oc : Value) (an od : Option Addr) (osl : Array (Option Value)), K.lookup g = some ⟨oc, od, .func (PySem.W.fnOf x x pg bg sg dV kV doc pm an cdv ct), osl⟩ ∧ L2.Binds K (PySem.W.fnOf x x pg bg sg dV kV doc pm an cdv ct) [a] []
  cg : PySem.W.codeIn K cdv x = true
  S : FnScope Ng [a] sg
  n0 : Ng[0]? = some a
  va : Vis sg a
theorem ev_lam {X : Cx} {E : Ev} {B : Bs} {W : WX} {errs : List Nat} {sub : Nat → Nat → Bool} {hls : List (Nat × Hr)} {fine : Str} {c : CE} {x a : Str} {g cd Pt : Addr} {k : Nat} {bg : List Stmt} {sg : Scope} {cdv : Value} {Ng : List Str} {params : Arguments} {body : Expr} {scope : Scope} {p lpos pos : Pos}
    (hK : X.K = E.K) (M : MetDef X.K X.mg x a g Ng bg sg cdv) (hg : Gl X x) (hG : GivesTo X Ng x sg g cdv bg a (X.env.qual ++ "<lambda>") (TTmet E hls fine)) (ok : ∀ e ∈ errs, ∀ k ∈ hls.map (·.1), PySem.W.exmOne E.K (.ref (E.ce e)) (.ref (E.ce k)) = some (sub e k))
    (TB : TabB X.base X.mg cd Pt) (hcode : X.env.code = .ref cd) (hmT : (Pt, X.env.qual ++ "<lambda>") ∈ E.T) (hu : ∀ p ∈ E.T, p.1 = Pt → p.2 = X.env.qual ++ "<lambda>") (hr : Room (k + 2) X.A) (L : LamS X.env.scope scope) (hdef : defaultsOf params X.env = ([], []))
    (hbind : ∀ (q : Str) (cl : List (Str × Addr)) (pm cv ctv : Value), bindArgs (PySem.W.kla_fn "<lambda>" q params body scope cl pm cv ctv) ⟨[], []⟩ = pure [])
    (hbody : ∀ (A : Around) (outer : List Env) (s : Shared) (H : Hp) (Ex : XK) (f c' : Addr), Room k (A.deeper (lamEnv X scope s.heap.objs.size f c')) → ∀ B', PE (lamCx X A outer s H Ex scope f c') body (rE E B' (fun cls d _ H' => Ex cls d H') c))
    (hdb : (x == ("__debug__" : Str)) = false := by decide) (hd : (a == ("__debug__" : Str)) = false := by decide) (hcd : (a == ("__classdict__" : Str)) = false := by decide) :
    PE X (.Call (.Name x p) [.Lambda params body scope lpos] [] pos) (rE E B W (cMet errs sub hls fine c)) := by
  obtain ⟨pg, dV, kV, doc, pm, ct, oc, an, od, osl, lk, hb⟩ := M.ex
  exact PE.weak (pe_lamcall hg M.m M.k lk M.cg hb M.S M.n0 M.va hG TB hcode hmT hu hr L hdef hbind (fun A outer s H Ex f c' hr2 => ⟨fun pins s' σ' H' Q I ⟨B', q⟩ => (hbody A outer s H Ex f c' hr2 B').run pins s' σ' H' Q I q⟩) hdb hd hcd) fun σ H Q h => rE_met ok h
end TL
set_option Elab.async false
set_option linter.all false
set_option maxRecDepth 100000
set_option maxHeartbeats 4000000
namespace K51
open PySem PySem.Spec PyProof.Rows L2 Gd
/-! ### the text -/
def topS (i : Nat) : Stmt := PySem.Challenge.pw_setchooser_k51_errors_of_cores.main.body.getD i (.Pass ⟨0, 0, 0, 0⟩)
def inS (i j : Nat) : Stmt := match topS i with
  | .ClassDef _ _ _ b _ _ _ _ _ _ _ => b.getD j (.Pass ⟨0, 0, 0, 0⟩)
  | _ => .Pass ⟨0, 0, 0, 0⟩
abbrev s__wall : Stmt := topS 0
abbrev s_is_integer : Stmt := topS 6
abbrev s_is_number : Stmt := topS 7
abbrev s_is_below : Stmt := topS 8
abbrev s_is_name : Stmt := topS 9
abbrev s_is_ascending : Stmt := topS 10
abbrev s_tuples_of : Stmt := topS 11
abbrev s_InvalidNumber_init : Stmt := inS 17 0
abbrev s_InvalidNumber_str : Stmt := inS 17 1
abbrev s_UnknownName_init : Stmt := inS 18 0
abbrev s_UnknownName_str : Stmt := inS 18 1
abbrev s_is_row : Stmt := topS 23
abbrev s_is_rows : Stmt := topS 24
abbrev s_is_tie : Stmt := topS 25
abbrev s_is_ties : Stmt := topS 26
abbrev s_Book_init : Stmt := inS 27 0
abbrev s_Book_size : Stmt := inS 27 1
abbrev s_Book_names : Stmt := inS 27 2
abbrev s_Book_sets : Stmt := inS 27 3
abbrev s_Book_getitem : Stmt := inS 27 4
abbrev s_Book_contains : Stmt := inS 27 5
abbrev s_Book_len : Stmt := inS 27 6
abbrev s_Book_eq : Stmt := inS 27 7
abbrev s_Book_str : Stmt := inS 27 8
abbrev s_Book_iter : Stmt := inS 27 9
abbrev s_Book_places : Stmt := inS 27 10
abbrev s_Book_with_tie : Stmt := inS 27 11
abbrev s_Book_without_tie : Stmt := inS 27 12
abbrev s_Book_only : Stmt := inS 27 13
abbrev s_Book_renamed : Stmt := inS 27 14
abbrev s_Book_turned : Stmt := inS 27 15
abbrev s_Book_add : Stmt := inS 27 16
abbrev s_Book_radd : Stmt := inS 27 17
abbrev s_is_names_of : Stmt := topS 28
abbrev s_check_book : Stmt := topS 29
abbrev s_check_name : Stmt := topS 30
abbrev s_are_alike : Stmt := topS 32
abbrev s_check_alike : Stmt := topS 33
abbrev s_does_lead : Stmt := topS 34
abbrev s_is_value_map : Stmt := topS 35
abbrev s_value_maps : Stmt := topS 36
abbrev s_folds : Stmt := topS 37
abbrev s_led_to : Stmt := topS 38
abbrev s_is_core : Stmt := topS 39
abbrev s_core_values : Stmt := topS 40
abbrev s_core : Stmt := topS 41
abbrev s_core_fold : Stmt := topS 42
abbrev s_is_values : Stmt := topS 43
abbrev s_to_core : Stmt := topS 44
abbrev s_from_core : Stmt := topS 45
abbrev s_sack : Stmt := topS 47
abbrev s_grab : Stmt := topS 48
abbrev s_one_of : Stmt := topS 49
abbrev s_met : Stmt := topS 50
abbrev s_right : Stmt := topS 51
abbrev s_law : Stmt := topS 52
abbrev nm__wall : List Str := ["k"]
abbrev nm_is_integer : List Str := ["value"]
abbrev nm_is_number : List Str := ["value"]
abbrev nm_is_below : List Str := ["value", "limit"]
abbrev nm_is_name : List Str := ["value", "letter"]
abbrev nm_is_ascending : List Str := ["values", "one", "other"]
abbrev nm_tuples_of : List Str := ["parts", "length", "told", "_", "before", "part"]
abbrev nm_InvalidNumber_init : List Str := ["self", "value"]
abbrev nm_InvalidNumber_str : List Str := ["self"]
abbrev nm_UnknownName_init : List Str := ["self", "name"]
abbrev nm_UnknownName_str : List Str := ["self"]
abbrev nm_is_row : List Str := ["size", "places", "value", "part"]
abbrev nm_is_rows : List Str := ["size", "places", "value", "row"]
abbrev nm_is_tie : List Str := ["size", "value"]
abbrev nm_is_ties : List Str := ["size", "value", "name", "tie"]
abbrev nm_Book_init : List Str := ["self", "size", "ties", "name"]
abbrev nm_Book_size : List Str := ["self"]
abbrev nm_Book_names : List Str := ["self"]
abbrev nm_Book_sets : List Str := ["self"]
abbrev nm_Book_getitem : List Str := ["self", "name"]
abbrev nm_Book_contains : List Str := ["self", "value"]
abbrev nm_Book_len : List Str := ["self"]
abbrev nm_Book_eq : List Str := ["self", "other"]
abbrev nm_Book_str : List Str := ["self"]
abbrev nm_Book_iter : List Str := ["self"]
abbrev nm_Book_places : List Str := ["self", "name"]
abbrev nm_Book_with_tie : List Str := ["self", "name", "places", "rows", "ties"]
abbrev nm_Book_without_tie : List Str := ["self", "name"]
abbrev nm_Book_only : List Str := ["self", "names", "name"]
abbrev nm_Book_renamed : List Str := ["self", "names"]
abbrev nm_Book_turned : List Str := ["self", "values"]
abbrev nm_Book_add : List Str := ["self", "other", "ties", "name", "tie"]
abbrev nm_Book_radd : List Str := ["self", "other"]
abbrev nm_is_names_of : List Str := ["book", "value", "name"]
abbrev nm_check_book : List Str := ["book"]
abbrev nm_check_name : List Str := ["name"]
abbrev nm_are_alike : List Str := ["one", "other", "name"]
abbrev nm_check_alike : List Str := ["one", "other"]
abbrev nm_does_lead : List Str := ["one", "other", "values", "name", "rows", "row", "value"]
abbrev nm_is_value_map : List Str := ["one", "other", "value"]
abbrev nm_value_maps : List Str := ["one", "other", "told", "values"]
abbrev nm_folds : List Str := ["book"]
abbrev nm_led_to : List Str := ["values"]
abbrev nm_is_core : List Str := ["book", "fold"]
abbrev nm_core_values : List Str := ["book", "ranked", "fold"]
abbrev nm_core : List Str := ["book", "kept", "numbers", "ties", "name", "rows", "number", "value", "row"]
abbrev nm_core_fold : List Str := ["book", "kept", "leaving", "fold", "value"]
abbrev nm_is_values : List Str := ["size", "value", "part"]
abbrev nm_to_core : List Str := ["book", "values", "kept", "fold", "value"]
abbrev nm_from_core : List Str := ["book", "values", "kept", "value"]
abbrev nm_sack : List Str := ["_law_script", "_law_at", "_law_cell", "_law_great", "_law_mixed"]
abbrev nm_grab : List Str := ["_law_sack_here", "_law_total", "_law_found", "_law_one", "_law_two"]
abbrev nm_one_of : List Str := ["_law_sack_here", "_law_items"]
abbrev nm_met : List Str := ["_law_action"]
abbrev nm_right : List Str := ["_law_sack_here", "_law_path", "_law_two", "_law_bad", "_law_value", "_law_values", "_law_far", "_law_told"]
abbrev nm_law : List Str := ["_law_script", "_law_path", "_law_two", "_law_at", "_law_sack_here", "_law_turn"]
theorem sc__wall : FnScope nm__wall ["k"] (defScope s__wall) := ⟨rfl, rfl, rfl, by decide +kernel, rfl, by decide +kernel, by decide +kernel⟩
theorem sc_is_integer : FnScope nm_is_integer ["value"] (defScope s_is_integer) := ⟨rfl, rfl, rfl, by decide +kernel, rfl, by decide +kernel, by decide +kernel⟩
theorem sc_is_number : FnScope nm_is_number ["value"] (defScope s_is_number) := ⟨rfl, rfl, rfl, by decide +kernel, rfl, by decide +kernel, by decide +kernel⟩
theorem sc_is_below : FnScope nm_is_below ["value", "limit"] (defScope s_is_below) := ⟨rfl, rfl, rfl, by decide +kernel, rfl, by decide +kernel, by decide +kernel⟩
theorem sc_is_name : FnScope nm_is_name ["value"] (defScope s_is_name) := ⟨rfl, rfl, rfl, by decide +kernel, rfl, by decide +kernel, by decide +kernel⟩
theorem sc_is_ascending : FnScope nm_is_ascending ["values"] (defScope s_is_ascending) := ⟨rfl, rfl, rfl, by decide +kernel, rfl, by decide +kernel, by decide +kernel⟩
theorem sc_tuples_of : FnScope nm_tuples_of ["parts", "length"] (defScope s_tuples_of) := ⟨rfl, rfl, rfl, by decide +kernel, rfl, by decide +kernel, by decide +kernel⟩
theorem sc_InvalidNumber_init : FnScope nm_InvalidNumber_init ["self", "value"] (defScope s_InvalidNumber_init) := ⟨rfl, rfl, rfl, by decide +kernel, rfl, by decide +kernel, by decide +kernel⟩
theorem sc_InvalidNumber_str : FnScope nm_InvalidNumber_str ["self"] (defScope s_InvalidNumber_str) := ⟨rfl, rfl, rfl, by decide +kernel, rfl, by decide +kernel, by decide +kernel⟩
theorem sc_UnknownName_init : FnScope nm_UnknownName_init ["self", "name"] (defScope s_UnknownName_init) := ⟨rfl, rfl, rfl, by decide +kernel, rfl, by decide +kernel, by decide +kernel⟩
theorem sc_UnknownName_str : FnScope nm_UnknownName_str ["self"] (defScope s_UnknownName_str) := ⟨rfl, rfl, rfl, by decide +kernel, rfl, by decide +kernel, by decide +kernel⟩
theorem sc_is_row : FnScope nm_is_row ["size", "places", "value"] (defScope s_is_row) := ⟨rfl, rfl, rfl, by decide +kernel, rfl, by decide +kernel, by decide +kernel⟩
theorem sc_is_rows : FnScope nm_is_rows ["size", "places", "value"] (defScope s_is_rows) := ⟨rfl, rfl, rfl, by decide +kernel, rfl, by decide +kernel, by decide +kernel⟩
theorem sc_is_tie : FnScope nm_is_tie ["size", "value"] (defScope s_is_tie) := ⟨rfl, rfl, rfl, by decide +kernel, rfl, by decide +kernel, by decide +kernel⟩
theorem sc_is_ties : FnScope nm_is_ties ["size", "value"] (defScope s_is_ties) := ⟨rfl, rfl, rfl, by decide +kernel, rfl, by decide +kernel, by decide +kernel⟩
theorem sc_Book_init : FnScope nm_Book_init ["self", "size", "ties"] (defScope s_Book_init) := ⟨rfl, rfl, rfl, by decide +kernel, rfl, by decide +kernel, by decide +kernel⟩
theorem sc_Book_size : FnScope nm_Book_size ["self"] (defScope s_Book_size) := ⟨rfl, rfl, rfl, by decide +kernel, rfl, by decide +kernel, by decide +kernel⟩
theorem sc_Book_names : FnScope nm_Book_names ["self"] (defScope s_Book_names) := ⟨rfl, rfl, rfl, by decide +kernel, rfl, by decide +kernel, by decide +kernel⟩
theorem sc_Book_sets : FnScope nm_Book_sets ["self"] (defScope s_Book_sets) := ⟨rfl, rfl, rfl, by decide +kernel, rfl, by decide +kernel, by decide +kernel⟩
theorem sc_Book_getitem : FnScope nm_Book_getitem ["self", "name"] (defScope s_Book_getitem) := ⟨rfl, rfl, rfl, by decide +kernel, rfl, by decide +kernel, by decide +kernel⟩
theorem sc_Book_contains : FnScope nm_Book_contains ["self", "value"] (defScope s_Book_contains) := ⟨rfl, rfl, rfl, by decide +kernel, rfl, by decide +kernel, by decide +kernel⟩
theorem sc_Book_len : FnScope nm_Book_len ["self"] (defScope s_Book_len) := ⟨rfl, rfl, rfl, by decide +kernel, rfl, by decide +kernel, by decide +kernel⟩
theorem sc_Book_eq : FnScope nm_Book_eq ["self", "other"] (defScope s_Book_eq) := ⟨rfl, rfl, rfl, by decide +kernel, rfl, by decide +kernel, by decide +kernel⟩
theorem sc_Book_str : FnScope nm_Book_str ["self"] (defScope s_Book_str) := ⟨rfl, rfl, rfl, by decide +kernel, rfl, by decide +kernel, by decide +kernel⟩
theorem sc_Book_iter : FnScope nm_Book_iter ["self"] (defScope s_Book_iter) := ⟨rfl, rfl, rfl, by decide +kernel, rfl, by decide +kernel, by decide +kernel⟩
theorem sc_Book_places : FnScope nm_Book_places ["self", "name"] (defScope s_Book_places) := ⟨rfl, rfl, rfl, by decide +kernel, rfl, by decide +kernel, by decide +kernel⟩
theorem sc_Book_with_tie : FnScope nm_Book_with_tie ["self", "name", "places", "rows"] (defScope s_Book_with_tie) := ⟨rfl, rfl, rfl, by decide +kernel, rfl, by decide +kernel, by decide +kernel⟩
theorem sc_Book_without_tie : FnScope nm_Book_without_tie ["self", "name"] (defScope s_Book_without_tie) := ⟨rfl, rfl, rfl, by decide +kernel, rfl, by decide +kernel, by decide +kernel⟩
theorem sc_Book_only : FnScope nm_Book_only ["self", "names"] (defScope s_Book_only) := ⟨rfl, rfl, rfl, by decide +kernel, rfl, by decide +kernel, by decide +kernel⟩
theorem sc_Book_renamed : FnScope nm_Book_renamed ["self", "names"] (defScope s_Book_renamed) := ⟨rfl, rfl, rfl, by decide +kernel, rfl, by decide +kernel, by decide +kernel⟩
theorem sc_Book_turned : FnScope nm_Book_turned ["self", "values"] (defScope s_Book_turned) := ⟨rfl, rfl, rfl, by decide +kernel, rfl, by decide +kernel, by decide +kernel⟩
theorem sc_Book_add : FnScope nm_Book_add ["self", "other"] (defScope s_Book_add) := ⟨rfl, rfl, rfl, by decide +kernel, rfl, by decide +kernel, by decide +kernel⟩
theorem sc_Book_radd : FnScope nm_Book_radd ["self", "other"] (defScope s_Book_radd) := ⟨rfl, rfl, rfl, by decide +kernel, rfl, by decide +kernel, by decide +kernel⟩
theorem sc_is_names_of : FnScope nm_is_names_of ["book", "value"] (defScope s_is_names_of) := ⟨rfl, rfl, rfl, by decide +kernel, rfl, by decide +kernel, by decide +kernel⟩
theorem sc_check_book : FnScope nm_check_book ["book"] (defScope s_check_book) := ⟨rfl, rfl, rfl, by decide +kernel, rfl, by decide +kernel, by decide +kernel⟩
theorem sc_check_name : FnScope nm_check_name ["name"] (defScope s_check_name) := ⟨rfl, rfl, rfl, by decide +kernel, rfl, by decide +kernel, by decide +kernel⟩
theorem sc_are_alike : FnScope nm_are_alike ["one", "other"] (defScope s_are_alike) := ⟨rfl, rfl, rfl, by decide +kernel, rfl, by decide +kernel, by decide +kernel⟩
theorem sc_check_alike : FnScope nm_check_alike ["one", "other"] (defScope s_check_alike) := ⟨rfl, rfl, rfl, by decide +kernel, rfl, by decide +kernel, by decide +kernel⟩
theorem sc_does_lead : FnScope nm_does_lead ["one", "other", "values"] (defScope s_does_lead) := ⟨rfl, rfl, rfl, by decide +kernel, rfl, by decide +kernel, by decide +kernel⟩
theorem sc_is_value_map : FnScope nm_is_value_map ["one", "other", "value"] (defScope s_is_value_map) := ⟨rfl, rfl, rfl, by decide +kernel, rfl, by decide +kernel, by decide +kernel⟩
theorem sc_value_maps : FnScope nm_value_maps ["one", "other"] (defScope s_value_maps) := ⟨rfl, rfl, rfl, by decide +kernel, rfl, by decide +kernel, by decide +kernel⟩
theorem sc_folds : FnScope nm_folds ["book"] (defScope s_folds) := ⟨rfl, rfl, rfl, by decide +kernel, rfl, by decide +kernel, by decide +kernel⟩
theorem sc_led_to : FnScope nm_led_to ["values"] (defScope s_led_to) := ⟨rfl, rfl, rfl, by decide +kernel, rfl, by decide +kernel, by decide +kernel⟩
theorem sc_is_core : FnScope nm_is_core ["book"] (defScope s_is_core) := ⟨rfl, rfl, rfl, by decide +kernel, rfl, by decide +kernel, by decide +kernel⟩
theorem sc_core_values : FnScope nm_core_values ["book"] (defScope s_core_values) := ⟨rfl, rfl, rfl, by decide +kernel, rfl, by decide +kernel, by decide +kernel⟩
theorem sc_core : FnScope nm_core ["book"] (defScope s_core) := ⟨rfl, rfl, rfl, by decide +kernel, rfl, by decide +kernel, by decide +kernel⟩
theorem sc_core_fold : FnScope nm_core_fold ["book"] (defScope s_core_fold) := ⟨rfl, rfl, rfl, by decide +kernel, rfl, by decide +kernel, by decide +kernel⟩
theorem sc_is_values : FnScope nm_is_values ["size", "value"] (defScope s_is_values) := ⟨rfl, rfl, rfl, by decide +kernel, rfl, by decide +kernel, by decide +kernel⟩
theorem sc_to_core : FnScope nm_to_core ["book", "values"] (defScope s_to_core) := ⟨rfl, rfl, rfl, by decide +kernel, rfl, by decide +kernel, by decide +kernel⟩
theorem sc_from_core : FnScope nm_from_core ["book", "values"] (defScope s_from_core) := ⟨rfl, rfl, rfl, by decide +kernel, rfl, by decide +kernel, by decide +kernel⟩
theorem sc_sack : FnScope nm_sack ["_law_script", "_law_at"] (defScope s_sack) := ⟨rfl, rfl, rfl, by decide +kernel, rfl, by decide +kernel, by decide +kernel⟩
theorem sc_grab : FnScope nm_grab ["_law_sack_here", "_law_total"] (defScope s_grab) := ⟨rfl, rfl, rfl, by decide +kernel, rfl, by decide +kernel, by decide +kernel⟩
theorem sc_one_of : FnScope nm_one_of ["_law_sack_here", "_law_items"] (defScope s_one_of) := ⟨rfl, rfl, rfl, by decide +kernel, rfl, by decide +kernel, by decide +kernel⟩
theorem sc_met : FnScope nm_met ["_law_action"] (defScope s_met) := ⟨rfl, rfl, rfl, by decide +kernel, rfl, by decide +kernel, by decide +kernel⟩
theorem sc_right : FnScope nm_right ["_law_sack_here", "_law_path", "_law_two"] (defScope s_right) := ⟨rfl, rfl, rfl, by decide +kernel, rfl, by decide +kernel, by decide +kernel⟩
theorem sc_law : FnScope nm_law ["_law_script"] (defScope s_law) := ⟨rfl, rfl, rfl, by decide +kernel, rfl, by decide +kernel, by decide +kernel⟩
/-! ### what the module has -/
structure Blt (mg : Str → Option Value) : Prop where
  isinstance_ : mg "isinstance" = none
  int_ : mg "int" = none
  bool_ : mg "bool" = none
  str_ : mg "str" = none
  all_ : mg "all" = none
  len_ : mg "len" = none
  zip_ : mg "zip" = none
  range_ : mg "range" = none
  repr_ : mg "repr" = none
  tuple_ : mg "tuple" = none
  dict_ : mg "dict" = none
  sorted_ : mg "sorted" = none
  property_ : mg "property" = none
  iter_ : mg "iter" = none
  list_ : mg "list" = none
  set_ : mg "set" = none
  min_ : mg "min" = none
  enumerate_ : mg "enumerate" = none
  max_ : mg "max" = none
  abs_ : mg "abs" = none
/-- a def of the module that keeps its promise -/
structure Has (P : Program) (w : World) (K : PySem.W.Frag) (mg : Str → Option Value) (base : Heap) (k : Nat) (x : Str) (ps : List Str) (sp : Sp) : Prop where
  ex : ∃ (f : Addr) (fd : FuncData), FnOk P w K mg base CX0 k f fd ps sp ∧ mg x = some (.ref f) ∧ PySem.W.keepIn K (.ref f) = true ∧ Binds K fd ps []
end K51
set_option Elab.async false
set_option linter.all false
set_option maxRecDepth 100000
set_option maxHeartbeats 1000000
/-! Vo: isinstance of an own class. -/
namespace TL
open PySem PySem.Spec PyProof.Rows L2 Gd
/-- the own classes cs among one another and among the built-in kinds -/
structure KitOk (E : Ev) (cs : List Nat) : Prop where
  ty : ∀ c ∈ cs, ∀ T, (T = "NoneType" ∨ T = "bool" ∨ T = "int" ∨ T = "str" ∨ T = "list" ∨ T = "dict" ∨ T = "tuple") → PySem.W.kitOne E.K (.type T) (.ref (E.cm c)) = some false
  own : ∀ c ∈ cs, ∀ c' ∈ cs, PySem.W.kitOne E.K (.ref (E.cm c')) (.ref (E.cm c)) = some (decide (c' = c))
def D.isC (cs : List Nat) (c : Nat) : D → Option Bool
  | .obj c' _ => if c' ∈ cs then some (decide (c' = c)) else none
  | .ty _ => none
  | .cls _ => none
  | .scr _ => none
  | .dic ps => if scK ps = true then some false else none
  | _ => some false
def fIsC (cs : List Nat) (ds : List D) : Option Rd1 := match ds with
  | [d, .cls c] => if c ∈ cs then (d.isC cs c).map fun b => .v (.bl b) else none
  | _ => fIs ds
section
variable {X : Cx} {E : Ev}
theorem cd_isc {cs : List Nat} (hK : X.K = E.K) (ok : ClsOk E) (kt : KitOk E cs) : CallD X E (.builtin "isinstance") (fIsC cs) := fun pins s σ H xs us Q I r ⟨F, ds, z, sub, px, e, k⟩ => by
  unfold fIsC at e
  split at e
  · rename_i d c
    by_cases hc : c ∈ cs
    · rw [if_pos hc] at e
      cases q : d.isC cs c with
      | none => rw [q] at e; cases e
      | some b =>
        rw [q] at e
        cases e
        obtain ⟨v, u, rfl, pv, pu⟩ := pks2 px
        have au := pu.at sub
        cases au
        have av := pv.at sub
        have n1 : ∀ x, d ≠ .ty x := fun x z => by subst z; cases q
        have n2 : ∀ x, d ≠ .cls x := fun x z => by subst z; cases q
        have n4 : ∀ ns, d ≠ .scr ns := fun ns z => by subst z; cases q
        have n3 : ∀ ps, d = .dic ps → scK ps = true := fun ps z => by
          subst z
          have q : (if scK ps = true then some false else none) = some b := q
          by_cases h : scK ps = true
          · exact h
          · rw [if_neg h] at q; cases q
        have kk : PySem.W.kitOne E.K (d.tyV E) (.ref (E.cm c)) = some b := by
          cases d with
          | obj c' fs =>
            have q : (if c' ∈ cs then some (decide (c' = c)) else none) = some b := q
            by_cases h : c' ∈ cs
            · rw [if_pos h] at q; cases q; exact kt.own c hc c' h
            · rw [if_neg h] at q; cases q
          | ty x => exact absurd rfl (n1 x)
          | cls x => exact absurd rfl (n2 x)
          | scr x => exact absurd rfl (n4 x)
          | dic ps =>
            have q : (if scK ps = true then some false else none) = some b := q
            rw [if_pos (n3 ps rfl)] at q
            cases q
            exact kt.ty c hc _ (by simp)
          | non => cases q; exact kt.ty c hc _ (by simp)
          | bl _ => cases q; exact kt.ty c hc _ (by simp)
          | pr _ => cases q; exact kt.ty c hc _ (by simp)
          | int _ => cases q; exact kt.ty c hc _ (by simp)
          | str _ => cases q; exact kt.ty c hc _ (by simp)
          | lst _ => cases q; exact kt.ty c hc _ (by simp)
          | tup _ => cases q; exact kt.ty c hc _ (by simp)
        exact call_isi pins s σ H _ us Q I r ⟨_, _, _, _, _, rfl, .own _, by rw [hK]; exact av.tyX ok n1 n2 n3 n4, by rw [hK]; exact kk, fin0 sub k (.bl _)⟩
    · rw [if_neg hc] at e; cases e
  · exact cd_isi hK ok pins s σ H xs us Q I r ⟨F, ds, z, sub, px, e, k⟩
/-- with dicts keyed by tuples -/
def fIsA (cs : List Nat) (ds : List D) : Option Rd1 := match ds with
  | [.dic ps, .ty T] => if scK ps = true then fIsC cs ds else if tyOk T = true then some (.v (.bl (kindIs "dict" T))) else none
  | [.dic ps, .cls c] => if scK ps = true then fIsC cs ds else if c ∈ cs then some (.v (.bl false)) else none
  | _ => fIsC cs ds
theorem nd_isi {pins : List (Addr × Obj)} {s : Shared} {σ : L2.St} {H : Hp} {a : Addr} {xs : NE} {c : V} {u w : Value} {b : Bool} {Q : VK} (I : L2.Inv X pins σ H s) (h : Rd H a (NDicO X.w a xs)) (kc : ClsV c u) (rc : L2.RelV c w) (e : PySem.W.kitOne X.K (.type "dict") u = some b) (q : Q (.bl b) H) : wpAny (model X.prog X.w) X.A (call (.builtin "isinstance") [.ref a, w]) (EP X pins σ Q) X.xe s := by
  have e2 := kc.eq rc
  subst e2
  have R := (IsR.rd h).ok I.hok
  obtain ⟨o, es, ep, h1, h2, _⟩ := R.ex
  exact PySem.W.kia_one PySem.W.kitx_dict I.kIn ⟨o, h1, h2.1⟩ e (fun z => nomatch z) fun tk => ⟨.bl b, H, I.tok tk, rfl, q⟩
theorem cd_isa {cs : List Nat} (hK : X.K = E.K) (hw : X.w = E.w) (ok : ClsOk E) (kt : KitOk E cs) : CallD X E (.builtin "isinstance") (fIsA cs) := fun pins s σ H xs us Q I r ⟨F, ds, z, sub, px, e, k⟩ => by
  unfold fIsA at e
  split at e
  · rename_i ps T
    by_cases sc : scK ps = true
    · rw [if_pos sc] at e
      exact cd_isc hK ok kt pins s σ H xs us Q I r ⟨F, _, z, sub, px, e, k⟩
    · rw [if_neg sc] at e
      by_cases hT : tyOk T = true
      · rw [if_pos hT] at e
        cases e
        obtain ⟨v, u, rfl, pv, pu⟩ := pks2 px
        have au := pu.at sub
        cases au
        obtain ⟨a, rfl, ⟨vs, h, r1⟩ | ⟨xs, h, n, r1⟩⟩ := pv.dic sub
        · exact absurd (atk_sc r1) sc
        · obtain ⟨w1, w2, rfl, q1, q2⟩ := vals2 r
          cases (show w1 = Value.ref a from q1)
          refine nd_isi I (by rw [hw]; exact h) (.ty T) q2 ?_ (fin0 sub k (.bl _))
          rcases tyOk_or hT with rfl | rfl | rfl | rfl | rfl <;> exact kit_ty (show kitB "dict" _ = some (kindIs "dict" _) by decide +kernel)
      · rw [if_neg hT] at e; cases e
  · rename_i ps c
    by_cases sc : scK ps = true
    · rw [if_pos sc] at e
      exact cd_isc hK ok kt pins s σ H xs us Q I r ⟨F, _, z, sub, px, e, k⟩
    · rw [if_neg sc] at e
      by_cases hc : c ∈ cs
      · rw [if_pos hc] at e
        cases e
        obtain ⟨v, u, rfl, pv, pu⟩ := pks2 px
        have au := pu.at sub
        cases au
        obtain ⟨a, rfl, ⟨vs, h, r1⟩ | ⟨xs, h, n, r1⟩⟩ := pv.dic sub
        · exact absurd (atk_sc r1) sc
        · obtain ⟨w1, w2, rfl, q1, q2⟩ := vals2 r
          cases (show w1 = Value.ref a from q1)
          exact nd_isi I (by rw [hw]; exact h) (.own _) q2 (by rw [hK]; exact kt.ty c hc _ (by simp)) (fin0 sub k (.bl _))
      · rw [if_neg hc] at e; cases e
  · exact cd_isc hK ok kt pins s σ H xs us Q I r ⟨F, ds, z, sub, px, e, k⟩
end
end TL
set_option Elab.async false
set_option linter.all false
set_option maxRecDepth 100000
set_option maxHeartbeats 1000000
/-! Vp: what a module's classes keep, as one premise each. -/
namespace TL
open PySem PySem.Spec PyProof.Rows L2 Gd
structure MkT (E : Ev) (mg : Str → Option Value) (base : Heap) (k c n : Nat) (x : Str) (m : List D → Option Ri2) : Prop where
  ex : ∃ f fd ps, Mk E.K (E.cm c) f ∧ FnOk E.P E.w E.K mg base (L2.CX E.P E.w) k f fd ps (spI E c n m) ∧ Binds E.K fd ps []
  g : mg x = some (.ref (E.cm c))
structure HasG (E : Ev) (mg : Str → Option Value) (base : Heap) (k : Nat) (x : Str) (ps : List Str) (sp : Sp) : Prop where
  ex : ∃ (f : Addr) (fd : FuncData), FnG E.P E.w E.K mg base (L2.CX E.P E.w) k f fd ps sp ∧ mg x = some (.ref f) ∧ PySem.W.keepIn E.K (.ref f) = true ∧ Binds E.K fd ps []
def FldOk (E : Ev) (cs : List Nat) (f : Str) : Prop := ∀ c ∈ cs, Cls E.K (E.cm c) ∧ NoAttr E.K (E.cm c) f
def powOk (i j : Int) : Bool := decide (0 ≤ j) && decide ((Builtin.Int.intBits i : Int) * j ≤ 2 ^ 27)
theorem od_pow {X : Cx} {E : Ev} : OpD X E (binaryOp .Pow) (fI2c powOk fun i j => .int (i ^ j.toNat)) := od_i2c op_powG (fun i j h => by
  unfold powOk at h
  rw [Bool.and_eq_true, decide_eq_true_eq, decide_eq_true_eq] at h
  exact h) fun _ _ _ => .int _
end TL
set_option Elab.async false
set_option linter.all false
set_option maxRecDepth 100000
set_option maxHeartbeats 1000000
/-! Vq: defs that make lambdas: their code object is known. -/
namespace TL
open PySem PySem.Spec PyProof.Rows L2 Gd
section
variable {P : Program} {w : World} {K : PySem.W.Frag} {mg : Str → Option Value} {base : Heap}
theorem def_okXL {CX : CXT} {c0 : Value} {x qual : Str} {st : Stmt} {f : Addr} {fd : FuncData} {N ps : List Str} {k : Nat} {sp : Sp} (F : Fun K x qual st f fd) (hcode : fd.code = c0) (S : FnScope N ps (defScope st)) (hl : ∀ us H Q E, sp us H Q E → us.length = ps.length)
    (hb : ∀ (cd : Value) (B : Around) (fs : List Env) (t : Shared) (H : Hp) (us : List V) (Q : VK) (E : XK), Room k (B.deeper (envOfC qual (defScope st) t.heap.objs.size f cd)) → B.guards = some [] → cd = c0 → sp us H Q E →
      ∃ r, PSs (cxOf CX P w K mg base N qual (defScope st) f cd B fs t H E) (defBody st) r ∧ r { nx := fun _ G => Q .non G, rt := Q } (start N us) H) : FnG P w K mg base CX (k + 1) f fd ps sp := by
  obtain ⟨oc, od, kV, doc, pm, an, cd, ct, osl, rfl, lk, hc⟩ := F.ex
  constructor
  · exact hl
  intro B fs t H as ws us Q E hr hg e0 hbd hv hq
  have e0b := e0.bs
  have inK : K.In t.heap := e0.mod.kin.keeps fun b o z => (e0b b o z).1
  have few := hl _ _ _ _ hq
  refine codeAny_call_function hr.depth (inK _ _ lk) rfl S.co S.gen rfl (PySem.W.codeRec_of inK hc) (hbd _ _ _ _ ?_)
  apply wpAny_newFunctionEnv_cells S.kind
  · rintro ⟨n, u⟩ hy
    cases S.par n (List.of_mem_zip hy).1 with
    | inl z => exact Or.inl z
    | inr z => exact Or.inr ⟨z, PySem.W.cellsFrom_some _ _ _ (Or.inl z)⟩
  intro env he t1 hx
  subst he
  constructor
  · exact Heap.NoLimit.keeps (e0.mod.nolimit.keeps fun b o z => (e0b b o z).1) hx.toInCall.keep
  apply codeAny_func
  obtain ⟨r, hpss, hrd⟩ := hb cd B fs t H us Q E (hr.deeper _) hg hcode hq
  have J := inv_start (CX := CX) (E := E) S hr.hd e0 few hv hx
  apply wpAny_mono (hpss.run [] t1 (start N us) H _ J hrd)
  · intro fl t2 h2
    cases fl with
    | next =>
      obtain ⟨σ2, G, J2, z⟩ := h2
      exact ⟨V.non, G, J2.os, J2.bare, J2.base, J2.hok, (rfl : Value.none = Value.none), z⟩
    | ret u =>
      obtain ⟨v, σ2, G, J2, rv, z⟩ := h2
      exact ⟨v, G, J2.os, J2.bare, J2.base, J2.hok, rv, z⟩
    | brk => exact (h2.elim fun _ h3 => h3.elim fun _ h4 => h4.2).elim
    | cont => exact (h2.elim fun _ h3 => h3.elim fun _ h4 => h4.2).elim
  · intro _ _ z
    exact z
theorem ok_GL {E : Ev} {x qual : Str} {st : Stmt} {f : Addr} {fd : FuncData} {N ps : List Str} {k : Nat} {c : CS} {c0 : Value} (F : Fun K x qual st f fd) (S : FnScope N ps (defScope st)) (hcode : fd.code = c0)
    (hb : ∀ (cdv : Value) (A : Around) (outer : List Env) (s : Shared) (H F0 : Hp) (Ex : XK), Room k (A.deeper (envOfC qual (defScope st) s.heap.objs.size f cdv)) → A.guards = some [] → cdv = c0 →
      PSs (cxOf (L2.CX P w) P w K mg base N qual (defScope st) f cdv A outer s H Ex) (defBody st) (rS E ⟨er H, F0, []⟩ (fun cls d _ H' => Ex cls d H') c)) : FnG P w K mg base (L2.CX P w) (k + 1) f fd ps (spP E ps.length (runP N.length ps.length c)) :=
  def_okXL F hcode S (fun _ _ _ _ h => spP_len h) fun cdv A outer s H vs Q Ex hr hg hcd h => by
    obtain ⟨F0, h⟩ := body_P h
    exact ⟨_, hb cdv A outer s H F0 Ex hr hg hcd, h⟩
theorem ok_CGL {E : Ev} {x qual : Str} {st : Stmt} {f : Addr} {fd : FuncData} {N ps : List Str} {k : Nat} {c : CS} {c0 : Value} (F : Fun K x qual st f fd) (S : FnScope N ps (defScope st)) (hcode : fd.code = c0)
    (hb : ∀ (cdv : Value) (A : Around) (outer : List Env) (s : Shared) (H F0 : Hp) (o : Addr) (Ex : XK), Room k (A.deeper (envOfC qual (defScope st) s.heap.objs.size f cdv)) → A.guards = some [] → cdv = c0 →
      PSs (cxOf (L2.CX P w) P w K mg base N qual (defScope st) f cdv A outer s H Ex) (defBody st) (rS E ⟨er H, F0, [o]⟩ (fun cls d _ H' => Ex cls d H') c)) : FnG P w K mg base (L2.CX P w) (k + 1) f fd ps (spC E ps.length (runC N.length ps.length c)) :=
  def_okXL F hcode S (fun _ _ _ _ h => spC_len h) fun cdv A outer s H vs Q Ex hr hg hcd h => by
    obtain ⟨F0, o, h⟩ := body_C h
    exact ⟨_, hb cdv A outer s H F0 o Ex hr hg hcd, h⟩
end
end TL
set_option Elab.async false
set_option linter.all false
set_option maxRecDepth 100000
set_option maxHeartbeats 1000000
/-! Vr: name = [.. for ..] on one line: the name is stored before the block is let go. -/
namespace TL
open PySem PySem.Spec PyProof.Rows L2 Gd
section
variable {X : Cx} {E : Ev} {B : Bs} {W : WX}
theorem ps_fr {st : Stmt} {c : CE} {g : TG} (h : PS X st (tAsg (rE E B W c) g)) : PS X st (tAsg (rE E B W (cFr c)) g) := PS.weak h fun _ _ _ h => frz h
theorem ps_lcs {i : Nat} {y : Str} {py : Pos} {elt tg iter : Expr} {ifs : List Expr} {scope : Scope} {own : List (Str × Nat)} {pos spos : Pos} {ci : CI} {t : CT} {g : TG} {tt el : CE} (hc : X.calm = true) (hN : X.N.Nodup) (hy : X.N[i]? = some y) (hyl : X.env.scope.names.lookup y = some .local)
    (hk : X.env.scope.kind = .function) (hl : (py.line == pos.line) = true) (hany : (scope.names.any fun (n, k) => n == y && (k == .local || k == .cell)) = false)
    (hi : PI X tg iter (rI E B W ci)) (ok : BlkOk X.N X.env.scope scope own)
    (hg : ∀ (s : Shared) (H : Hp) (C : Addr) (cl : List (Str × Addr)) (fp : List Addr), PG (X.blk s H scope (compEnvC scope cl C X.env) fp) tg g) (tgo : TgOk E g t) (tgw : TgW g (own.map (·.2)))
    (ht : ∀ (s : Shared) (H : Hp) (C : Addr) (cl : List (Str × Addr)) (fp : List Addr), PTs (X.blk s H scope (compEnvC scope cl C X.env) fp) ifs (fun σ H Q => ∃ B', rT E B' nev tt σ H Q))
    (he : ∀ (s : Shared) (H : Hp) (C : Addr) (cl : List (Str × Addr)) (fp : List Addr), PE (X.blk s H scope (compEnvC scope cl C X.env) fp) elt (fun σ H Q => ∃ B', rE E B' nev el σ H Q)) (hs : ∀ x, foldedSetIterable iter X.env x = pure x := by intro _; rfl) :
    PS X (.Assign [.Name y py] (.ListComp elt [⟨tg, iter, ifs, 0⟩] scope pos) spos) (tAsg (rE E B W (cLc ci t tt el (own.map (·.2)))) (gName i)) :=
  PS.weak (ps_setLc hc hN hy hyl (sw_true hk hyl hl hany) hi ok hg ht he hs) fun _ _ _ h => rE_lc tgo tgw (fun B' _ _ _ z => ⟨B', z⟩) (fun B' _ _ _ z => ⟨B', z⟩) h
theorem ps_lcs2 {i : Nat} {y : Str} {py : Pos} {elt tg iter tg1 iter1 : Expr} {ifs ifs1 : List Expr} {scope : Scope} {own : List (Str × Nat)} {vs1 : List Nat} {pos spos : Pos} {ci ci1 : CI} {t t1 : CT} {g g1 : TG} {tt tt1 el : CE} (hc : X.calm = true) (hN : X.N.Nodup) (hy : X.N[i]? = some y) (hyl : X.env.scope.names.lookup y = some .local)
    (hk : X.env.scope.kind = .function) (hl : (py.line == pos.line) = true) (hany : (scope.names.any fun (n, k) => n == y && (k == .local || k == .cell)) = false)
    (hi : PI X tg iter (rI E B W ci)) (ok : BlkOk X.N X.env.scope scope own) (hv : ∀ i ∈ vs1, i ∈ own.map (·.2))
    (hg : ∀ (s : Shared) (H : Hp) (C : Addr) (cl : List (Str × Addr)) (fp : List Addr), PG (X.blk s H scope (compEnvC scope cl C X.env) fp) tg g) (tgo : TgOk E g t) (tgw : TgW g (own.map (·.2)))
    (ht : ∀ (s : Shared) (H : Hp) (C : Addr) (cl : List (Str × Addr)) (fp : List Addr), PTs (X.blk s H scope (compEnvC scope cl C X.env) fp) ifs (fun σ H Q => ∃ B', rT E B' nev tt σ H Q))
    (hi1 : ∀ (s : Shared) (H : Hp) (C : Addr) (cl : List (Str × Addr)) (fp : List Addr), PI (X.blk s H scope (compEnvC scope cl C X.env) fp) tg1 iter1 (fun σ H R => ∃ B', rI E B' nev ci1 σ H R))
    (hg1 : ∀ (s : Shared) (H : Hp) (C : Addr) (cl : List (Str × Addr)) (fp : List Addr), PG (X.blk s H scope (compEnvC scope cl C X.env) fp) tg1 g1) (tgo1 : TgOk E g1 t1) (tgw1 : TgW g1 vs1)
    (ht1 : ∀ (s : Shared) (H : Hp) (C : Addr) (cl : List (Str × Addr)) (fp : List Addr), PTs (X.blk s H scope (compEnvC scope cl C X.env) fp) ifs1 (fun σ H Q => ∃ B', rT E B' nev tt1 σ H Q))
    (he : ∀ (s : Shared) (H : Hp) (C : Addr) (cl : List (Str × Addr)) (fp : List Addr), PE (X.blk s H scope (compEnvC scope cl C X.env) fp) elt (fun σ H Q => ∃ B', rE E B' nev el σ H Q)) (hs : ∀ x, foldedSetIterable iter X.env x = pure x := by intro _; rfl) (hs1 : ∀ env x, foldedSetIterable iter1 env x = pure x := by intro _ _; rfl) :
    PS X (.Assign [.Name y py] (.ListComp elt [⟨tg, iter, ifs, 0⟩, ⟨tg1, iter1, ifs1, 0⟩] scope pos) spos) (tAsg (rE E B W (cLc2 ci t tt ci1 t1 tt1 el (own.map (·.2)) vs1)) (gName i)) :=
  PS.weak (ps_setLc2 hc hN hy hyl (sw_true hk hyl hl hany) hi ok hv hg ht hi1 hg1 ht1 he hs hs1) fun _ _ _ h => rE_lc2 tgo tgw tgo1 tgw1 (fun B' _ _ _ z => ⟨B', z⟩) (fun B' _ _ _ z => ⟨B', z⟩) (fun B' _ _ _ z => ⟨B', z⟩) (fun B' _ _ _ z => ⟨B', z⟩) h
/-! ### a, b = x, y stored from the right -/
def sPar (i j : Nat) (c : CA) : CS := fun G C => match c G C with
  | some (.ok [x, y], C1) => some (.nx, (G.set i (some x)).set j (some y), C1)
  | some (.ex e, C1) => some (.ex e, G, C1)
  | _ => none
theorem sv_par {i j : Nat} {x y : Str} {a b : Expr} {ca : CA} {px py pt pos : Pos} {kt k2 pt2} (hc : X.calm = true) (hN : X.N.Nodup) (hi : X.N[i]? = some x) (hj : X.N[j]? = some y) (hij : i ≠ j)
    (hx : X.env.scope.names.lookup x = some .local) (hy : X.env.scope.names.lookup y = some .local) (ha : PA X [a, b] (rA E B W tru ca))
    (hw : swappedStores [.Tuple [.Name x px, .Name y py] kt pt] (.Tuple [a, b] k2 pt2) X.env = pure (some [x, y]))
    (hs : swapsWithSole [.Tuple [.Name x px, .Name y py] kt pt] (.Tuple [a, b] k2 pt2) pos.line X.env = pure false := by rfl) :
    PS X (.Assign [.Tuple [.Name x px, .Name y py] kt pt] (.Tuple [a, b] k2 pt2) pos) (rS E B W (sPar i j ca)) := PS.weak (ps_par hc hN hi hj hij hx hy ha hw hs) fun D σ H ⟨F, as, G, C, o, G', C', wd, sr, e, po⟩ => by
  unfold sPar at e
  cases q : ca G C with
  | none => rw [q] at e; cases e
  | some p =>
    obtain ⟨r, C1⟩ := p
    rw [q] at e
    show rA E B W tru ca σ H _
    refine ⟨F, as, G, C, r, C1, wd, sr, trivial, q, fun F' H' s w => ?_⟩
    cases r with
    | ex er => cases e; exact fun cls dx a => po F' H' as σ s (List.prefix_refl _) w (sr.mv s (List.prefix_refl _)) cls dx a
    | ok xs =>
      intro vs av
      match xs, e with
      | [u1, u2], e =>
        cases e
        cases av with
        | cons p1 r1 =>
          cases r1 with
          | cons p2 r2 =>
            cases r2
            exact ⟨_, _, rfl, po F' H' as _ s (List.prefix_refl _) w (((sr.mv s (List.prefix_refl _)).set i p1).set j p2)⟩
end
end TL
set_option Elab.async false
set_option linter.all false
set_option maxRecDepth 100000
set_option maxHeartbeats 1000000
/-! Vs: defs that give back a new list, which the caller may change. -/
namespace TL
open PySem PySem.Spec PyProof.Rows L2 Gd
inductive Rn where
  | ok (ds : List D) | ex (e : Er)
def Rn.rs : Rn → Rs
  | .ok d => .n (.lst d)
  | .ex e => .ex e
/-- what it promises -/
def spN (E : Ev) (n : Nat) (m : List D → Option Rn) : Sp := fun vs H Q Ex => ∃ F ds r, ds.length = n ∧ Same F H ∧ Pre E F H ∧ Ats E F vs ds ∧ m ds = some r ∧ match r with
  | .ok l => ∀ F' H' p us, Gr E F H F' H' → H' p = some (.lst us) → F' p = none → er H p = none → Ats E F' us l → Q (.ref p) H'
  | .ex e => ∀ F' H' cls dx, Gr E F H F' H' → ErAt E F' H' cls dx e → Ex cls dx H'
abbrev CN := Sl → Cs → Option (Rn × Cs)
def rN (E : Ev) (B : Bs) (W : WX) (c : CN) : TS := fun D σ H => ∃ F as G C r C', Wd E B H F as C ∧ Sr E F as σ G ∧ c G C = some (r, C') ∧ ∀ F' H' as' σ', Sm F F' → as <+: as' → Wd E B H' F' as' C' → match r with
  | .ok l => ∀ p us, H' p = some (.lst us) → F' p = none → p ∉ as' → B.H0 p = none → Ats E F' us l → D.rt (.ref p) H'
  | .ex e => ∀ cls dx, ErAt E F' H' cls dx e → W cls dx σ' H'
def nRet (c : CE) : CN := fun G C => match c G C with
  | some (.n (.lst l), C1) => some (.ok l, C1)
  | some (.ex e, C1) => some (.ex e, C1)
  | _ => none
def nSeq (a : CS) (b : CN) : CN := fun G C => match a G C with
  | some (.nx, G1, C1) => b G1 C1
  | some (.ex e, _, C1) => some (.ex e, C1)
  | _ => none
def runN (n a : Nat) (c : CN) (ds : List D) : Option Rn := if ds.length = a then (c (slots n ds) []).map (·.1) else none
section
variable {X : Cx} {E : Ev} {B : Bs} {W : WX}
theorem n_ret {e : Expr} {pos : Pos} {c : CE} (he : PE X e (rE E B W c)) : PSs X [.Return (some e) pos] (rN E B W (nRet c)) := PSs.weak (pss_one (ps_ret he)) fun D σ H ⟨F, as, G, C, r, C', wd, sr, e, po⟩ => by
  unfold nRet at e
  show rE E B W c σ H D.rt
  cases q : c G C with
  | none => rw [q] at e; cases e
  | some p =>
    obtain ⟨r1, C1⟩ := p
    rw [q] at e
    refine ⟨F, as, G, C, r1, C1, wd, sr, trivial, q, ?_⟩
    cases r1 with
    | ex er => cases e; exact fun F' H' s w cls dx a => po F' H' as σ s (List.prefix_refl _) w cls dx a
    | v d => cases e
    | c k => cases e
    | n o =>
      cases o with
      | lst l =>
        cases e
        intro F' H' s w v a
        obtain ⟨p, ho, rfl, hp, fp, np, bp, us, rfl, ax⟩ := a
        exact po F' H' as σ s (List.prefix_refl _) w p us hp fp np bp ax
      | dic l => cases e
      | ins c l => cases e
theorem n_cons {st : Stmt} {sts : List Stmt} {ca : CS} {cb : CN} (h1 : PS X st (rS E B W ca)) (h2 : PSs X sts (rN E B W cb)) : PSs X (st :: sts) (rN E B W (nSeq ca cb)) := PSs.weak (pss_cons h1 h2) fun D σ H ⟨F, as, G, C, r, C', wd, sr, e, po⟩ => by
  unfold nSeq at e
  show rS E B W ca { D with nx := rN E B W cb D } σ H
  cases q : ca G C with
  | none => rw [q] at e; cases e
  | some p =>
    obtain ⟨o1, G1, C1⟩ := p
    rw [q] at e
    refine ⟨F, as, G, C, o1, G1, C1, wd, sr, q, fun F' H' as' σ' s p w sr' => ?_⟩
    cases o1 with
    | nx => exact ⟨F', as', G1, C1, r, C', w, sr', e, fun F2 H2 as2 σ2 s2 p2 w2 => po F2 H2 as2 σ2 (s.tr s2) (p.trans p2) w2⟩
    | rt d => cases e
    | bk => cases e
    | ct => cases e
    | ex er => cases e; exact po F' H' as' σ' s p w
theorem spN_len {n : Nat} {m : List D → Option Rn} {vs : List V} {H : Hp} {Q : VK} {Ex : XK} (h : spN E n m vs H Q Ex) : vs.length = n := by
  obtain ⟨F, ds, r, hn, _, _, a, _⟩ := h
  rw [a.len, hn]
theorem body_N {N : List Str} {a : Nat} {c : CN} {vs : List V} {H : Hp} {Q : VK} {Ex : XK} (h : spN E a (runN N.length a c) vs H Q Ex) : ∃ F, rN E ⟨er H, F, []⟩ (fun cls d _ H' => Ex cls d H') c { nx := fun _ G => Q .non G, rt := Q } (L2.start N vs) H := by
  obtain ⟨F, ds, r, hn, s, pr, at_, e, po⟩ := h
  refine ⟨F, F, [], slots N.length ds, [], ?_⟩
  unfold runN at e
  rw [if_pos hn] at e
  cases q : c (slots N.length ds) [] with
  | none => rw [q] at e; cases e
  | some p =>
    obtain ⟨r1, C1⟩ := p
    rw [q] at e
    cases e
    refine ⟨r1, C1, wd_start s pr, slots_sr at_, rfl, fun F' H' as' σ' s' p' w => ?_⟩
    cases r1 with
    | ok l => exact fun p us h1 h2 h3 h4 h5 => po F' H' p us (wd_gr w) h1 h2 h4 h5
    | ex er => exact fun cls dx a => po F' H' cls dx (wd_gr w) a
structure FmN (n : Nat) (m : List D → Option Rn) : Prop where
  len : ∀ ds r, m ds = some r → ds.length = n
theorem fm_N {n a : Nat} {c : CN} : FmN a (runN n a c) := ⟨fun ds r h => by
  unfold runN at h
  by_cases q : ds.length = a
  · exact q
  · rw [if_neg q] at h; cases h⟩
def cFnN (m : List D → Option Rn) (ca : CA) : CE := fun G C => ba (ca G C) fun xs C1 => ((vals xs).bind m).map fun r => (r.rs, C1)
theorem rE_fnN {ca : CA} {σ : L2.St} {H : Hp} {Q : VK} {n : Nat} {m : List D → Option Rn} (hn : ∀ ds r, m ds = some r → ds.length = n) (h : rE E B W (cFnN m ca) σ H Q) : tCall (spN E n m) [] (WE W σ) (rA E B W tru ca) σ H Q := rA_imp (rF_ba mo_tru h) fun vs H1 ⟨xs, h1⟩ => by
  obtain ⟨F, as, G, C, r, C', wd, sr, ⟨_, ax⟩, e, po⟩ := h1
  cases q : vals xs with
  | none => rw [q] at e; cases e
  | some ds =>
    rw [q] at e
    have e : (m ds).map (fun r => (r.rs, C)) = some (r, C') := e
    cases q2 : m ds with
    | none => rw [q2] at e; cases e
    | some rv =>
      rw [q2] at e
      cases e
      refine ⟨F, ds, rv, hn ds rv q2, wd.sub, wd.pr, by rw [List.append_nil]; exact vals_at ax q, q2, ?_⟩
      cases rv with
      | ok l => exact fun F' H' p us g h1 h2 h3 h4 => po.back (fun _ z => by cases z) g.f (wd.gr g) ⟨p, _, rfl, h1, h2, fun z => (wd.there p z).er h3, wd.nobaseE h3, us, rfl, h4⟩
      | ex er => exact fun F' H' cls dx g a => po.ex g.f (wd.gr g) a
variable {k n : Nat} {f : Addr} {fd : FuncData} {ps : List Str} {x : Str} {p pos : Pos} {e : Expr} {es : List Expr} {ca : CA} {m : List D → Option Rn}
theorem ev_fnN (Fn : FnOk X.prog X.w X.K X.mg X.base (L2.CX X.prog X.w) k f fd ps (spN E n m)) (tk : Takes X W) (fm : FmN n m) (hr : Room k X.A) (hg : Gl X x) (hm : X.mg x = some (.ref f)) (hk : PySem.W.keepIn X.K (.ref f) = true) (hb : Binds X.K fd ps [])
    (ha : PA X (e :: es) (rA E B W tru ca)) (hdb : (x == ("__debug__" : Str)) = false := by decide) (he : starEach (e :: es) X.env = (false, eval e X.env) :: starEach es X.env := by rfl) (hpl : (backTo pos (starEach es X.env)).any (·.1) = false := by rfl) :
    PE X (.Call (.Name x p) (e :: es) [] pos) (rE E B W (cFnN m ca)) :=
  PE.weak (pe_callS Fn hr hg hm hk hb (fun σ => passAt tk σ) ha hdb he hpl) fun σ H Q h => rA_imp (rE_fnN fm.len h) fun vs H1 z => by rw [List.append_nil] at z; exact z
end
section
variable {P : Program} {w : World} {K : PySem.W.Frag} {mg : Str → Option Value} {base : Heap}
theorem ok_N {E : Ev} {x qual : Str} {st : Stmt} {f : Addr} {fd : FuncData} {N ps : List Str} {k : Nat} {c : CN} (F : Fun K x qual st f fd) (S : FnScope N ps (defScope st))
    (hb : ∀ (cdv : Value) (A : Around) (outer : List Env) (s : Shared) (H F0 : Hp) (Ex : XK), Room k (A.deeper (envOfC qual (defScope st) s.heap.objs.size f cdv)) →
      PSs (cxOf (L2.CX P w) P w K mg base N qual (defScope st) f cdv A outer s H Ex) (defBody st) (rN E ⟨er H, F0, []⟩ (fun cls d _ H' => Ex cls d H') c)) : FnOk P w K mg base (L2.CX P w) (k + 1) f fd ps (spN E ps.length (runN N.length ps.length c)) :=
  F.okX S (fun _ _ _ _ h => spN_len h) fun cdv A outer s H vs Q Ex hr h => by
    obtain ⟨F0, h⟩ := body_N h
    exact ⟨_, hb cdv A outer s H F0 Ex hr, h⟩
end
end TL
set_option Elab.async false
set_option linter.all false
set_option maxRecDepth 100000
set_option maxHeartbeats 1000000
/-! Vt: the end of a law that has tables and wants no guards around. -/
namespace TL
open PySem PySem.Spec PyProof.Rows L2 Gd
theorem law_runT {P : Program} {w : World} {K : PySem.W.Frag} {mg mb : Str → Option Value} {CX : CXT} {k : Nat} {fa a : Addr} {cs : List (Addr × Addr)} {fd : FuncData} {x : Str} {sp : Sp} {t : Shared} {vs : List Value} {ns : List Int}
    (inK : K.In t.heap) (hmg : t.heap.Ns mainGlobals mg) (hmb : t.heap.Ns builtinsNs mb) (hbb : ∀ y : Str, y ≠ "__name__" → mb y = bootBuiltins y) (hnl : t.heap.NoLimit) (hgen : t.gens = #[])
    (hT : ∀ p ∈ cs, t.heap.get? p.2 = some { cls := .none, data := .fields #[] }) (nT : ∀ p ∈ cs, K.lookup p.2 = none) (hC : ∀ p ∈ cs, PySem.W.CodeHd t.heap p.1 p.2)
    (hbm : ∃ (bm : Addr) (ob : Obj), mg "__builtins__" = some (.ref bm) ∧ bm ≠ builtinsNs ∧ t.heap.get? bm = some ob ∧ ob.cls = .type "module" ∧ ob.dict = some builtinsNs ∧ ob.data = .plain)
    (hobj : t.heap.get? a = some { cls := .type "list", data := .seq vs.toArray }) (hints : IntsAre vs ns) (hlen : ns.length ≤ sizeLine) (room : Room k callerA)
    (F : ∀ base : Heap, K.In base → base.Ns mainGlobals mg → (∀ p ∈ cs, LamX.TabB base mg p.1 p.2) → FnG P w K mg base CX k fa fd [x] sp) (hbind : ∀ (s : Shared) (u : Value), BindsTo s fd ⟨[u], []⟩ [(x, u)])
    (hsp : ∀ H : Hp, (∀ b u, H b = some u → b = a ∨ ∃ p ∈ cs, b = p.2) → (∀ u, H a = some u → NT u) → (∀ p ∈ cs, H p.2 = some (.tbl #[])) → SqL K H a (ns.map V.int) → sp [.ref a] H (fun v _ => v = .bl true) fun _ _ _ => False)
    (hCX : ∀ H e s', CX [] H t (fun _ _ _ => False) e s' → False) :
    codeAny (model P w) callerA (.call (.ref fa) ⟨[.ref a], []⟩) (fun r t' => r = .ok (.ret (.bool true)) ∧ OldK t.heap t'.heap ∧ t'.os = t.os ∧ AllBare t'.gens) t := by
  have hv := vals_ints hints
  let ob : Obj := { cls := .type "list", data := .seq vs.toArray }
  let tb : Obj := { cls := .none, data := .fields #[] }
  have ob_tb : ob ≠ tb := fun z => nomatch (show Data.seq vs.toArray _ = Data.fields #[] from congrArg Obj.data z)
  have aT : ∀ p ∈ cs, p.2 ≠ a := fun p hp z => ob_tb (by
    have e := hT p hp
    rw [z, hobj] at e
    exact Option.some.inj e)
  suffices main : ∀ H : Hp, (∀ b u, H b = some u → (b = a ∧ u = .frz ob (.lst (ns.map V.int)) ∧ K.lookup a = none) ∨ ((∃ p ∈ cs, b = p.2) ∧ u = .tbl #[])) → (∀ p ∈ cs, H p.2 = some (.tbl #[])) → SqL K H a (ns.map V.int) →
      codeAny (model P w) callerA (.call (.ref fa) ⟨[.ref a], []⟩) (fun r t' => r = .ok (.ret (.bool true)) ∧ OldK t.heap t'.heap ∧ t'.os = t.os ∧ AllBare t'.gens) t by
    have tab : ∀ (o : Option HO) (b : Addr), (if b = a then o else if b ∈ cs.map (·.2) then some (.tbl #[]) else none) = (if b = a then o else if b ∈ cs.map (·.2) then some (HO.tbl #[]) else none) := fun _ _ => rfl
    have inT : ∀ b, b ∈ cs.map (·.2) → ∃ p ∈ cs, b = p.2 := fun b hb => by
      obtain ⟨p, hp, e⟩ := List.mem_map.mp hb
      exact ⟨p, hp, e.symm⟩
    have tabs : ∀ (o : Option HO), ∀ p ∈ cs, (if p.2 = a then o else if p.2 ∈ cs.map (·.2) then some (HO.tbl #[]) else none) = some (.tbl #[]) := fun o p hp => by
      rw [if_neg (aT p hp), if_pos (List.mem_map.mpr ⟨p, hp, rfl⟩)]
    cases hk : K.lookup a with
    | none =>
      refine main (fun b => if b = a then some (.frz ob (.lst (ns.map V.int))) else if b ∈ cs.map (·.2) then some (.tbl #[]) else none) (fun b u z => ?_) (tabs _) (Or.inl (Or.inr ⟨ob, if_pos rfl⟩))
      by_cases hb : b = a
      · have z := (if_pos hb).symm.trans z
        exact .inl ⟨hb, (Option.some.inj z).symm, hk⟩
      · have z := (if_neg hb).symm.trans z
        by_cases hb2 : b ∈ cs.map (·.2)
        · exact .inr ⟨inT b hb2, (Option.some.inj ((if_pos hb2).symm.trans z)).symm⟩
        · exact nomatch (if_neg hb2).symm.trans z
    | some o =>
      have z := inK a o hk
      rw [hobj] at z
      cases z
      refine main (fun b => if b = a then none else if b ∈ cs.map (·.2) then some (.tbl #[]) else none) (fun b u z => ?_) (tabs _) (Or.inr ⟨_, vs.toArray, _, hk, rfl, rfl, rfl, by rw [List.size_toArray, hints.length]; exact hlen, by simpa using hv⟩)
      by_cases hb : b = a
      · exact nomatch (if_pos hb).symm.trans z
      · have z := (if_neg hb).symm.trans z
        by_cases hb2 : b ∈ cs.map (·.2)
        · exact .inr ⟨inT b hb2, (Option.some.inj ((if_pos hb2).symm.trans z)).symm⟩
        · exact nomatch (if_neg hb2).symm.trans z
  intro H hH hHT hS
  have hok : HOk P w H t.heap := fun b u z => by
    rcases hH b u z with ⟨rfl, rfl, _⟩ | ⟨⟨p, hp, rfl⟩, rfl⟩
    · exact ⟨hobj, by rw [List.length_map]; exact hlen, vs, _, hv, hobj⟩
    · exact hT p hp
  have free : ∀ {b o}, t.heap.get? b = some o → o ≠ ob → o ≠ tb → H b = none := fun {b o} z n1 n2 => by
    cases q : H b with
    | none => rfl
    | some u =>
      rcases hH b u q with ⟨rfl, _, _⟩ | ⟨⟨p, hp, rfl⟩, _⟩
      · rw [hobj] at z
        exact absurd (Option.some.inj z).symm n1
      · rw [hT p hp] at z
        exact absurd (Option.some.inj z).symm n2
  have nsH : ∀ {b m}, t.heap.Ns b m → (hidT t.heap H).Ns b m := fun {b m} ⟨o, es, ep, z, d, r⟩ => by
    refine ⟨o, es, ep, hidT_get z (free z (fun q => ?_) fun q => ?_), d, r⟩
    · rw [q] at d
      exact nomatch (show Data.seq vs.toArray _ = Data.dict es ep from d)
    · rw [q] at d
      exact nomatch (show Data.fields #[] = Data.dict es ep from d)
  have inKH : K.In (hidT t.heap H) := fun b o z => hidT_get (inK b o z) (by
    cases q : H b with
    | none => rfl
    | some u =>
      rcases hH b u q with ⟨rfl, _, n⟩ | ⟨⟨p, hp, rfl⟩, _⟩
      · rw [n] at z
        cases z
      · rw [nT p hp] at z
        cases z)
  have tabB : ∀ p ∈ cs, LamX.TabB (hidT t.heap H) mg p.1 p.2 := fun p hp => by
    obtain ⟨o, us, file, tf, flags, tg, inF, text, tt, e1, r1, r2, r3, r4⟩ := hC p hp
    obtain ⟨bm, om, b1, b2, b3, b4, b5, b6⟩ := hbm
    obtain ⟨og, es, ep, g1, g2, g3⟩ := hmg
    have fo : H p.1 = none := free e1 (fun q => by
      rw [q] at r2
      exact nomatch (show Data.seq vs.toArray _ = Data.fields us from r2)) fun q => by
        rw [q] at r2
        have z : us = #[] := (Data.fields.inj (show Data.fields #[] = Data.fields us from r2)).symm
        rw [z] at r3
        exact nomatch r3
    have fm : H bm = none := free b3 (fun q => by
      rw [q] at b6
      exact nomatch (show Data.seq vs.toArray _ = Data.plain from b6)) fun q => by
        rw [q] at b6
        exact nomatch (show Data.fields #[] = Data.plain from b6)
    refine ⟨⟨o, us, file, tf, flags, tg, inF, text, tt, hidT_get e1 fo, r1, r2, r3, r4⟩, ⟨bm, om, b1, b2, fun q => ?_, fun q => ?_, hidT_get b3 fm, b4, b5, b6⟩, fun q => ?_⟩
    · rw [q, g1] at b3
      cases b3
      rw [g2] at b6
      cases b6
    · rw [q, hT p hp] at b3
      cases b3
      cases b6
    · rw [q, hT p hp] at g1
      cases g1
      cases g2
  obtain ⟨mc, l1, l2⟩ := hnl
  have e0 : Env0 P w K mg (hidT t.heap H) callerA [] t H := by
    refine ⟨rfl, ⟨inKH, nsH hmg, ⟨mb, nsH hmb, hbb⟩, mc, nsH l1, l2⟩, fun b o z => of_hidT z, Nat.le_of_eq (hidT_size _ _), trivial, fun b hb => ?_, hok, .of_eq hgen⟩
    cases hb
  have only : ∀ b u, H b = some u → b = a ∨ ∃ p ∈ cs, b = p.2 := fun b u z => (hH b u z).imp (fun z => z.1) fun z => z.1
  have only2 : ∀ u, H a = some u → NT u := fun u z => by
    rcases hH a u z with ⟨_, rfl, _⟩ | ⟨⟨p, hp, e⟩, _⟩
    · intro _ q; cases q
    · exact absurd e.symm (aT p hp)
  apply codeAny_mono ((F _ inKH (nsH hmg) tabB).runG callerA [] t H ⟨[.ref a], []⟩ [.ref a] [.ref a] _ _ room rfl e0 (hbind t (.ref a)) (.cons rfl .nil) (hsp H only only2 hHT hS))
  intro r t' hr
  rcases r with e | fl
  · exact (hCX H e t' hr).elim
  cases fl with
  | ret u =>
    obtain ⟨v, H', os, bare, un, hok', ru, q⟩ := hr
    have q : v = .bl true := q
    subst q
    cases (show u = Value.bool true from ru)
    have grown : ∀ p ∈ cs, ∃ more : Array Value, t'.heap.get? p.2 = some { cls := .none, data := .fields more } := fun p hp => by
      obtain ⟨more, z⟩ := un.tbls p.2 #[] (hHT p hp)
      exact ⟨_, hok' p.2 _ z⟩
    have stays : ∀ b o, t.heap.get? b = some o → (¬ ∃ p ∈ cs, b = p.2) → t'.heap.get? b = some o := fun b o z nb => by
      cases q : H b with
      | none => exact un.keep b o z q (fun m => nomatch (show b ∈ ([] : List Addr) from m)) (by simp)
      | some u =>
        rcases hH b u q with ⟨rfl, rfl, _⟩ | ⟨hp, _⟩
        · have z2 := (hok' b _ (un.frzs b _ _ q)).1
          rw [hobj] at z
          cases z
          exact z2
        · exact absurd hp nb
    refine ⟨rfl, ⟨fun b o z => ?_, fun b o z => ?_⟩, os, bare⟩
    · by_cases hb : ∃ p ∈ cs, b = p.2
      · obtain ⟨p, hp, rfl⟩ := hb
        obtain ⟨more, hm⟩ := grown p hp
        rw [hT p hp] at z
        cases z
        exact .inr (.inl ⟨((hC p hp).tab (hT p hp)).isCodeTable, rfl, #[], more, rfl, by rw [Array.empty_append]; exact hm⟩)
      · exact .inl (stays b o z hb)
    · by_cases hb : ∃ p ∈ cs, b = p.2
      · obtain ⟨p, hp, rfl⟩ := hb
        obtain ⟨more, hm⟩ := grown p hp
        exact ⟨_, hm⟩
      · exact ⟨o, stays b o z hb⟩
  | _ => exact (show False from hr).elim
/-- what a law's def owes, where its computation answers true -/
theorem law_sp {E : Ev} {m : List D → Option Rv} {a : Addr} {ns : List Int} {H : Hp} (hm : m [.scr ns] = some (.ok (.bl true))) (hT : ∀ p ∈ E.T, H p.1 = some (.tbl #[])) (ha : ∀ u, H a = some u → NT u) (hS : SqL E.K H a (ns.map V.int)) :
    spP E 1 m [.ref a] H (fun v _ => v = .bl true) fun _ _ _ => False := by
  refine ⟨fun b => if b = a then H a else none, [.scr ns], _, rfl, fun b o z => ?_, ⟨fun p hp => ⟨#[], hT p hp, ?_, fun pos cv z => ?_⟩, fun b o z => ?_⟩, .cons (.scr ?_) .nil, hm, fun F' H' v g av => by cases av; rfl⟩
  · by_cases hb : b = a
    · subst hb; exact (if_pos rfl).symm.trans z
    · exact nomatch (if_neg hb).symm.trans z
  · exact trivial
  · exact nomatch (show (none : Option Value) = some cv from z)
  · by_cases hb : b = a
    · exact ha o ((if_pos hb).symm.trans z)
    · exact nomatch (if_neg hb).symm.trans z
  · rcases hS with (h | ⟨o, h⟩) | h
    · exact .inl (.inl ((if_pos rfl).trans h))
    · exact .inl (.inr ⟨o, (if_pos rfl).trans h⟩)
    · exact .inr h
/-- what is known of the law at the head's heap -/
def LawG (l : PySem.W.OpenLaw) (w : World) (K : PySem.W.Frag) (k n : Nat) (x : Str) (mg : Str → Option Value) (fa : Addr) (h : Heap) : Prop :=
  ∃ (E : Ev) (fd : FuncData) (cs : List (Addr × Addr)) (m : List D → Option Rv), E.P = l.prog ∧ E.w = w ∧ E.K = K ∧ (∀ p ∈ E.T, ∃ q ∈ cs, q.2 = p.1) ∧
    (∀ p ∈ cs, h.get? p.2 = some { cls := .none, data := .fields #[] }) ∧ (∀ p ∈ cs, K.lookup p.2 = none) ∧ (∀ p ∈ cs, PySem.W.CodeHd h p.1 p.2) ∧ (∀ (s : Shared) (u : Value), BindsTo s fd ⟨[u], []⟩ [(x, u)]) ∧
    (∀ ns : List Int, ns.length ≤ n → (∀ z ∈ ns, Builtin.Int.intBits z ≤ 1048576) → m [.scr ns] = some (.ok (.bl true))) ∧
    ∀ base : Heap, K.In base → base.Ns mainGlobals mg → (∀ p ∈ cs, LamX.TabB base mg p.1 p.2) → FnG l.prog w K mg base (L2.CX l.prog w) k fa fd [x] (spP E 1 m)
theorem walkG {l : PySem.W.OpenLaw} {n k : Nat} {q : Program} {loose : List Str} {XP : (Str → Option Value) → Heap → Prop} {YP : World → Heap → Prop} {d : DefRec} {K : Params → PySem.W.Frag} {x : Str}
    (hn : l.most = some n) (hn2 : n ≤ sizeLine) (hdf : d.params.defaults = []) (room : Room k callerA) (hY : ∀ (w : World) (h : Heap), YP w h → (K w.params).In h)
    (F : ∀ (w : World) (mg : Str → Option Value) (fa : Addr) (h : Heap), YP w h → (K w.params).In h → h.Ns mainGlobals mg → mg d.name = some (.ref fa) → LawG l w (K w.params) k n x mg fa h) :
    PySem.W.WalkO q loose XP YP l.row.toRowW d [] (fun f vs => PySem.call f vs) := by
  apply Att.attach_callB hn hdf
  intro w s₀ s₁ mg mb fa o pm cd doc a vs ns G Y _ _ _ hfa hobj hints hlen hbits hg
  have inK := hY w _ Y
  obtain ⟨E, fd, cs, m, rfl', rfl2, hK, hTs, hT, nT, hC, hb, hm, hF⟩ := F w mg fa _ Y inK G.T.g hfa
  refine law_runT inK G.T.g G.T.b G.T.builtins G.T.nolimit hg hT nT hC G.T.bmain hobj hints (Nat.le_trans hlen hn2) room hF hb (fun H _ h2 h3 hS => law_sp (hm ns hlen hbits) (fun p hp => ?_) h2 (by rw [hK]; exact hS)) fun H e s' h => ?_
  · obtain ⟨q, hq, e⟩ := hTs p hp
    rw [← e]
    exact h3 q hq
  · obtain ⟨_, _, _, _, _, _, _, _, _, _, _, _, z⟩ := h
    exact z
end TL
set_option Elab.async false
set_option linter.all false
set_option maxRecDepth 100000
set_option maxHeartbeats 1000000
/-! Vu: [.. for pair in zip(a, b)] over two tuples, the target a name. -/
namespace TL
open PySem PySem.Spec PyProof.Rows L2 Gd
section
open PySem.Sem (wp)
variable {prog : Program} {w : World} {A : Around} {E : Value → Shared → Prop} {s : Shared}
theorem zipTH_item {z TI TO T i1 i2 l1 l2 : Addr} {f : Bool} {oT : Obj} {k1 k2 : Nat} {xs ys : Array Value} {x y : Value} {Q : Value → Shared → Prop} (D : ZipApart z TI TO i1 i2 l1 l2)
    (hz : IsZipHeld s.heap z TI TO T f) (hT : s.heap.get? T = some oT) (hTI : IsPair s.heap TI (.ref i1) (.ref i2))
    (h1 : s.heap.IsTupleIter i1 l1 k1) (h2 : s.heap.IsTupleIter i2 l2 k2) (hl1 : s.heap.IsTuple l1 xs) (hl2 : s.heap.IsTuple l2 ys) (hx : xs[k1]? = some x) (hy : ys[k2]? = some y)
    (hQ : ∀ h', IsZipHeld h' z TI TO T true → h'.IsTupleIter i1 l1 (k1 + 1) → h'.IsTupleIter i2 l2 (k2 + 1) → IsPair h' s.heap.objs.size x y → h'.objs.size = s.heap.objs.size + 1 →
      (∀ c o, c ≠ z → c ≠ i1 → c ≠ i2 → s.heap.get? c = some o → h'.get? c = some o) → Q (.ref s.heap.objs.size) { s with heap := h' }) :
    wpAny (model prog w) A (Builtin.«zip.__next__» ⟨[.ref z], []⟩) (fun fin s' => ∃ v, fin = .done (.ret v) ∧ Q v s') E s := by
  show wpAny _ _ (field (.ref z) 2 >>= _) _ _ _
  refine wpAny_bind (wpAny_field hz rfl (x := .bool false) rfl ?_)
  show wpAny _ _ (field (.ref z) 3 >>= _) _ _ _
  refine wpAny_bind (wpAny_field hz rfl (x := .ref TI) rfl ?_)
  refine wpAny_bind (wpAny_seqItems hTI rfl ?_)
  show wpAny _ _ (Builtin.SmallTypes.ownedTupleIsFree (.ref z) >>= _) _ _ _
  refine wpAny_bind (wpAny_tupleHeld_zip hz hT fun h₁ hz₁ hs₁ => ?_)
  simp only [Bool.false_eq_true, if_false]
  refine wpAny_bind ?_
  rw [← Array.forIn_toList]
  simp only [List.forIn_cons, List.forIn_nil]
  refine wpAny_bind (wpAny_bind (wpAny_holding ?_))
  show wpAny _ _ (Builtin.SmallTypes.nextOf (.ref i1) >>= _) _ _ _
  refine wpAny_bind (RZ.nextOf_tuple_item (s := { s with heap := h₁ }) (h1.extBut hs₁.extBut D.i1z) (hl1.extBut hs₁.extBut D.l1z) hx fun h₂ h1₂ hs₂ => wpAny_pure ?_)
  refine wpAny_pure ?_
  refine wpAny_bind (wpAny_bind (wpAny_holding ?_))
  show wpAny _ _ (Builtin.SmallTypes.nextOf (.ref i2) >>= _) _ _ _
  refine wpAny_bind (RZ.nextOf_tuple_item (s := { s with heap := h₂ }) ((h2.extBut hs₁.extBut D.i2z).extBut hs₂.extBut D.i12.symm) ((hl2.extBut hs₁.extBut D.l2z).extBut hs₂.extBut D.l2i1) hy fun h₃ h2₃ hs₃ => wpAny_pure ?_)
  refine wpAny_pure (wpAny_pure ?_)
  show wpAny _ _ (newTuple [x, y] >>= _) _ _ _
  refine wpAny_bind (wpAny_newTuple ?_)
  have hsz : h₃.objs.size = s.heap.objs.size := by rw [hs₃.1, hs₂.1, hs₁.1]
  have hz₃ : IsZipHeld h₃ z TI TO T true := hs₃.extBut _ _ D.i2z.symm (hs₂.extBut _ _ D.i1z.symm hz₁)
  have hk : ∀ c o, c ≠ z → c ≠ i1 → c ≠ i2 → s.heap.get? c = some o → h₃.get? c = some o := fun c o c1 c2 c3 e => hs₃.extBut _ _ c3 (hs₂.extBut _ _ c2 (hs₁.extBut _ _ c1 e))
  have h1₃ : h₃.IsTupleIter i1 l1 (k1 + 1) := h1₂.extBut hs₃.extBut D.i12
  refine wpAny_pure ⟨_, rfl, ?_⟩
  show Q (.ref h₃.objs.size) _
  have hp : IsPair (h₃.push { cls := .type "tuple", data := .seq #[x, y] }) h₃.objs.size x y := Heap.get?_push_size _ rfl
  have hz4 : (h₃.push { cls := .type "tuple", data := .seq #[x, y] }).objs.size = h₃.objs.size + 1 := Heap.size_push ..
  rw [hsz] at hp hz4 ⊢
  exact hQ _ (Heap.get?_push_of_some _ hz₃) (h1₃.at fun o e => Heap.get?_push_of_some _ e) (h2₃.at fun o e => Heap.get?_push_of_some _ e) hp hz4 fun c o c1 c2 c3 e => Heap.get?_push_of_some _ (hk c o c1 c2 c3 e)
theorem zipTH_end {z TI TO T i1 i2 l1 l2 : Addr} {f : Bool} {oT : Obj} {k1 k2 : Nat} {xs ys : Array Value} {Q : Fin → Shared → Prop} (hh : A.handled = none) (D : ZipApart z TI TO i1 i2 l1 l2)
    (hz : IsZipHeld s.heap z TI TO T f) (hT : s.heap.get? T = some oT) (hTI : IsPair s.heap TI (.ref i1) (.ref i2))
    (h1 : s.heap.IsTupleIter i1 l1 k1) (h2 : s.heap.IsTupleIter i2 l2 k2) (hl1 : s.heap.IsTuple l1 xs) (hl2 : s.heap.IsTuple l2 ys) (hend : xs[k1]? = none ∨ ys[k2]? = none)
    (hE : ∀ h' e, (∀ c o, c ≠ z → c ≠ i1 → c ≠ i2 → s.heap.get? c = some o → h'.get? c = some o) → (∃ o, h'.get? e = some o ∧ o.cls = .type "StopIteration") → E (.ref e) { s with heap := h' }) :
    wpAny (model prog w) A (Builtin.«zip.__next__» ⟨[.ref z], []⟩) Q E s := by
  show wpAny _ _ (field (.ref z) 2 >>= _) _ _ _
  refine wpAny_bind (wpAny_field hz rfl (x := .bool false) rfl ?_)
  show wpAny _ _ (field (.ref z) 3 >>= _) _ _ _
  refine wpAny_bind (wpAny_field hz rfl (x := .ref TI) rfl ?_)
  refine wpAny_bind (wpAny_seqItems hTI rfl ?_)
  show wpAny _ _ (Builtin.SmallTypes.ownedTupleIsFree (.ref z) >>= _) _ _ _
  refine wpAny_bind (wpAny_tupleHeld_zip hz hT fun h₁ hz₁ hs₁ => ?_)
  simp only [Bool.false_eq_true, if_false]
  refine wpAny_bind ?_
  rw [← Array.forIn_toList]
  simp only [List.forIn_cons, List.forIn_nil]
  refine wpAny_bind (wpAny_bind (wpAny_holding ?_))
  show wpAny _ _ (Builtin.SmallTypes.nextOf (.ref i1) >>= _) _ _ _
  cases hx : xs[k1]? with
  | none =>
    refine wpAny_bind (RZ.nextOf_tuple_end (s := { s with heap := h₁ }) hh (h1.extBut hs₁.extBut D.i1z) (hl1.extBut hs₁.extBut D.l1z) hx fun h₂ e hs₂ he => ?_)
    exact hE h₂ e (fun c o c1 c2 _ x => hs₂ _ _ c2 (hs₁.extBut _ _ c1 x)) he
  | some x =>
    have hy : ys[k2]? = none := by rcases hend with h | h; rw [hx] at h; cases h; exact h
    refine wpAny_bind (RZ.nextOf_tuple_item (s := { s with heap := h₁ }) (h1.extBut hs₁.extBut D.i1z) (hl1.extBut hs₁.extBut D.l1z) hx fun h₂ h1₂ hs₂ => wpAny_pure ?_)
    refine wpAny_pure ?_
    refine wpAny_bind (wpAny_bind (wpAny_holding ?_))
    show wpAny _ _ (Builtin.SmallTypes.nextOf (.ref i2) >>= _) _ _ _
    refine wpAny_bind (RZ.nextOf_tuple_end (s := { s with heap := h₂ }) hh ((h2.extBut hs₁.extBut D.i2z).extBut hs₂.extBut D.i12.symm) ((hl2.extBut hs₁.extBut D.l2z).extBut hs₂.extBut D.l2i1) hy fun h₃ e hs₃ he => ?_)
    exact hE h₃ e (fun c o c1 c2 c3 x => hs₃ _ _ c3 (hs₂.extBut _ _ c2 (hs₁.extBut _ _ c1 x))) he
theorem pyNext_zipTH_item {z TI TO T i1 i2 l1 l2 : Addr} {f : Bool} {oT : Obj} {k1 k2 : Nat} {xs ys : Array Value} {x y : Value} {Q : Option Value → Shared → Prop} (D : ZipApart z TI TO i1 i2 l1 l2)
    (hz : IsZipHeld s.heap z TI TO T f) (hT : s.heap.get? T = some oT) (hTI : IsPair s.heap TI (.ref i1) (.ref i2))
    (h1 : s.heap.IsTupleIter i1 l1 k1) (h2 : s.heap.IsTupleIter i2 l2 k2) (hl1 : s.heap.IsTuple l1 xs) (hl2 : s.heap.IsTuple l2 ys) (hx : xs[k1]? = some x) (hy : ys[k2]? = some y)
    (hQ : ∀ h', IsZipHeld h' z TI TO T true → h'.IsTupleIter i1 l1 (k1 + 1) → h'.IsTupleIter i2 l2 (k2 + 1) → IsPair h' s.heap.objs.size x y → h'.objs.size = s.heap.objs.size + 1 →
      (∀ c o, c ≠ z → c ≠ i1 → c ≠ i2 → s.heap.get? c = some o → h'.get? c = some o) → Q (some (.ref s.heap.objs.size)) { s with heap := h' }) :
    wpAny (model prog w) A (pyNext (.ref z)) Q E s := by
  have hTy : s.TypeIs (.ref z) "zip" := ⟨_, hz, rfl⟩
  unfold pyNext
  exact wpAny_bind (wpAny_attempt (wpAny_callSpecial?_slot (name := Str.ofString "__next__") hTy F.slot_zip_next
    (wpAny_call_entry F.slot_zip_next hTy F.entry_zip_next
      (zipTH_item D hz hT hTI h1 h2 hl1 hl2 hx hy fun h' a1 a3 a4 a5 a6 a7 => wpAny_pure (hQ h' a1 a3 a4 a5 a6 a7)) (F.args_zip_next_1 _))))
theorem pyNext_zipTH_end {z TI TO T i1 i2 l1 l2 : Addr} {f : Bool} {oT : Obj} {k1 k2 : Nat} {xs ys : Array Value} {Q : Option Value → Shared → Prop} (hh : A.handled = none) (D : ZipApart z TI TO i1 i2 l1 l2)
    (hz : IsZipHeld s.heap z TI TO T f) (hT : s.heap.get? T = some oT) (hTI : IsPair s.heap TI (.ref i1) (.ref i2))
    (h1 : s.heap.IsTupleIter i1 l1 k1) (h2 : s.heap.IsTupleIter i2 l2 k2) (hl1 : s.heap.IsTuple l1 xs) (hl2 : s.heap.IsTuple l2 ys) (hend : xs[k1]? = none ∨ ys[k2]? = none)
    (hQ : ∀ h', (∀ c o, c ≠ z → c ≠ i1 → c ≠ i2 → s.heap.get? c = some o → h'.get? c = some o) → Q none { s with heap := h' }) : wpAny (model prog w) A (pyNext (.ref z)) Q E s := by
  have hTy : s.TypeIs (.ref z) "zip" := ⟨_, hz, rfl⟩
  unfold pyNext
  refine wpAny_bind (wpAny_attempt (wpAny_callSpecial?_slot (name := Str.ofString "__next__") hTy F.slot_zip_next
    (wpAny_call_entry F.slot_zip_next hTy F.entry_zip_next (zipTH_end hh D hz hT hTI h1 h2 hl1 hl2 hend fun h' e hk he => ?_) (F.args_zip_next_1 _))))
  obtain ⟨o, ho, hc⟩ := he
  refine wpAny_bind (wpAny_isInstance (T := "StopIteration") (b := true) ⟨o, ho, hc⟩ isSubtype_stop ?_)
  exact wpAny_pure (hQ _ hk)
end
theorem objok_some {P : Program} {w : World} {H : Hp} {h : Heap} {a : Addr} {o : HO} (x : ObjOk P w H h a o) : ∃ o, h.get? a = some o := by
  cases o with
  | lst xs => obtain ⟨_, _, _, _, e⟩ := x; exact ⟨_, e⟩
  | tup xs => obtain ⟨_, _, _, o, e, _⟩ := x; exact ⟨_, e⟩
  | dK kvs => obtain ⟨_, _, _, _, o, _, _, e, _⟩ := x; exact ⟨_, e⟩
  | dT kvs => obtain ⟨_, _, _, _, o, _, _, e, _⟩ := x; exact ⟨_, e⟩
  | set S n => obtain ⟨o, _, _, _, e, _⟩ := x; exact ⟨_, e⟩
  | ins C dx fs => obtain ⟨_, _, _, e, _⟩ := x; exact ⟨_, e⟩
  | own y => exact x
  | xd fs => obtain ⟨_, ⟨_, _, _, e, _⟩, _⟩ := x; exact ⟨_, e⟩
  | rng lo hi => obtain ⟨_, _, _, e⟩ := x; exact ⟨_, e⟩
  | frz ob u => obtain ⟨e, _⟩ := x; exact ⟨_, e⟩
  | tbl ps => exact ⟨_, show h.get? a = some _ from x⟩
  | met f y => exact ⟨_, show h.get? a = some _ from x⟩
  | ext φ => obtain ⟨_, z, _⟩ := x; exact z
def Alive (t : Option Addr) (h : Heap) : Prop := ∀ T, t = some T → ∃ o, h.get? T = some o
structure TurnN (P : Program) (w : World) (K : PySem.W.Frag) (tg : Expr) (J : It) (fp : List Addr) (it : Addr) (tn : Nat → Option Addr → Heap → Prop) : Prop where
  mem : it ∈ fp
  obj : ∀ i t h, tn i t h → ∀ b ∈ fp, ∃ o, h.get? b = some o ∧ ∀ v, o.data ≠ .cell v
  keep : ∀ i t h h', tn i t h → (∀ b ∈ fp, ∀ o, h.get? b = some o → h'.get? b = some o) → tn i t h'
  item : ∀ (X : Cx), X.prog = P → X.w = w → X.K = K → X.calm = true → ∀ (i : Nat) (t : Option Addr) (pins : List (Addr × Obj)) (s : Shared) (σ : L2.St) (H : Hp) (E : Value → Shared → Prop), Inv X pins σ H s → (∀ b ∈ fp, FpOk X pins H b) → tn i t s.heap → Alive t s.heap → J.go i H →
    wpAny (model P w) X.A (pyNext (.ref it)) (fun r s1 => ∃ u, r = some u ∧
      wpAny (model P w) X.A (letOwnedTupleGo tg (.ref it) u) (fun _ s2 => ∃ T t' H', Inv X pins σ H' s2 ∧ RelV (.ref T) u ∧ J.yld i H (.ref T) H' ∧ tn (i + 1) t' s2.heap ∧ (t' = t ∨ (t = none ∧ t' = some T)) ∧ ∀ b ∈ fp, H' b = none) E s1) E s
  done : ∀ (X : Cx), X.prog = P → X.w = w → X.K = K → X.calm = true → ∀ (i : Nat) (t : Option Addr) (pins : List (Addr × Obj)) (s : Shared) (σ : L2.St) (H : Hp) (E : Value → Shared → Prop), Inv X pins σ H s → (∀ b ∈ fp, FpOk X pins H b) → tn i t s.heap → Alive t s.heap → J.stop i H →
    wpAny (model P w) X.A (pyNext (.ref it)) (fun r s1 => r = none ∧ Inv X pins σ H s1) E s
  self : ∀ (A : Around) (i : Nat) (s : Shared) (Q : Value → Shared → Prop) (E : Value → Shared → Prop), tn i none s.heap → Q (.ref it) s → wpAny (model P w) A (pyIter (.ref it)) Q E s
/-- the tuples at a and b, the items in new pairs, told with the pair itself -/
def ItzF (K : PySem.W.Frag) (a b : Addr) : It :=
  ⟨fun i H => ∃ (xs ys : List V) (x y : V), SqT K H a xs ∧ SqT K H b ys ∧ xs[i]? = some x ∧ ys[i]? = some y,
    fun i H v H' => ∃ T o x y, v = .ref T ∧ TOb o ∧ H T = none ∧ H' = upd H T (.frz o (.tup [x, y])) ∧ (∀ xs, SqT K H a xs → xs[i]? = some x) ∧ ∀ ys, SqT K H b ys → ys[i]? = some y,
    fun i H => ∃ xs ys : List V, SqT K H a xs ∧ SqT K H b ys ∧ (xs.length ≤ i ∨ ys.length ≤ i)⟩
open PySem.SeqAt in
def zipSt (z TI TO i1 i2 a b : Addr) (i : Nat) (t : Option Addr) (h : Heap) : Prop :=
  (match t with
    | none => IsZip h z TI TO .none
    | some T => ∃ f, IsZipHeld h z TI TO T f) ∧ IsPair h TI (.ref i1) (.ref i2) ∧ (∃ x y, IsPair h TO x y) ∧ h.IsTupleIter i1 a i ∧ h.IsTupleIter i2 b i
theorem turnN_zip {P : Program} {w : World} {K : PySem.W.Frag} {nm : Str} {tpos : Pos} {a b z TI TO i1 i2 : Addr} (D : ZipApart z TI TO i1 i2 a b) :
    TurnN P w K (.Name nm tpos) (ItzF K a b) [z, TI, TO, i1, i2] z (zipSt z TI TO i1 i2 a b) where
  mem := by simp
  obj := fun i t h st c hc => by
    obtain ⟨hz, hTI, ⟨x, y, hTO⟩, ⟨o1, e1, _, d1⟩, ⟨o2, e2, _, d2⟩⟩ := st
    have e' : c = z ∨ c = TI ∨ c = TO ∨ c = i1 ∨ c = i2 := by simpa using hc
    rcases e' with q | q | q | q | q
    · rw [q]
      cases t with
      | none => exact ⟨_, hz, fun v q => nomatch q⟩
      | some T => obtain ⟨f, hz⟩ := hz; exact ⟨_, hz, fun v q => nomatch q⟩
    · rw [q]; exact ⟨_, hTI, fun v q => nomatch q⟩
    · rw [q]; exact ⟨_, hTO, fun v q => nomatch q⟩
    · rw [q]; exact ⟨o1, e1, fun v q => by rw [d1] at q; cases q⟩
    · rw [q]; exact ⟨o2, e2, fun v q => by rw [d2] at q; cases q⟩
  keep := fun i t h h' st k => by
    obtain ⟨hz, hTI, ⟨x, y, hTO⟩, h1, h2⟩ := st
    refine ⟨?_, k TI (by simp) _ hTI, ⟨x, y, k TO (by simp) _ hTO⟩, h1.at fun o q => k i1 (by simp) o q, h2.at fun o q => k i2 (by simp) o q⟩
    cases t with
    | none => exact k z (by simp) _ hz
    | some T => obtain ⟨f, hz⟩ := hz; exact ⟨f, k z (by simp) _ hz⟩
  item := by
    intro X hP hw hK hc i t pins s σ H E I hf st al hg
    subst hP hw hK
    obtain ⟨hz, hTI, ⟨x0, y0, hTO⟩, h1, h2⟩ := st
    obtain ⟨xs, ys, x, y, hqx, hqy, hx, hy⟩ := hg
    obtain ⟨its, rv, p, _⟩ := I.tuple hqx
    obtain ⟨its2, rv2, p2, _⟩ := I.tuple hqy
    obtain ⟨u, hu, ru⟩ := rv.get hx
    obtain ⟨u2, hu2, ru2⟩ := rv2.get hy
    have fin : ∀ (h' : Heap) (t' : Option Addr), zipSt z TI TO i1 i2 a b (i + 1) t' h' → (t' = t ∨ (t = none ∧ t' = some s.heap.objs.size)) → h'.get? s.heap.objs.size = some { cls := .type "tuple", data := .seq #[u, u2] } →
        (∀ c o, c ≠ z → c ≠ TO → c ≠ i1 → c ≠ i2 → s.heap.get? c = some o → h'.get? c = some o) →
        wpAny (model X.prog X.w) X.A (letOwnedTupleGo (.Name nm tpos) (.ref z) (.ref s.heap.objs.size)) (fun _ s2 => ∃ T t' H', Inv X pins σ H' s2 ∧ RelV (.ref T) (.ref s.heap.objs.size) ∧ (ItzF X.K a b).yld i H (.ref T) H' ∧ zipSt z TI TO i1 i2 a b (i + 1) t' s2.heap ∧ (t' = t ∨ (t = none ∧ t' = some T)) ∧ ∀ b ∈ [z, TI, TO, i1, i2], H' b = none) E { s with heap := h' } := fun h' t' st' ht hT hk => by
      refine wpAny_pure ?_
      have new : ObjOk X.prog X.w (upd H s.heap.objs.size (.frz { cls := .type "tuple", data := .seq #[u, u2] } (.tup [x, y]))) h' s.heap.objs.size (.frz { cls := .type "tuple", data := .seq #[u, u2] } (.tup [x, y])) :=
        ⟨hT, by show 2 ≤ sizeLine; decide, [u, u2], .cons ru (.cons ru2 .nil), ⟨_, hT, rfl, _, rfl⟩⟩
      have I1 : Inv X pins σ (upd H s.heap.objs.size (.frz { cls := .type "tuple", data := .seq #[u, u2] } (.tup [x, y]))) { s with heap := h' } :=
        I.turnedNew (t' := s.toks) (ch := [z, TI, TO, i1, i2]) (fun c o hb q => hk c o (fun q' => hb (by simp [q'])) (fun q' => hb (by simp [q'])) (fun q' => hb (by simp [q'])) (fun q' => hb (by simp [q'])) q) hf (Nat.le_refl _) new
      refine ⟨s.heap.objs.size, t', _, I1, rfl, ⟨_, _, x, y, rfl, ⟨rfl, rfl⟩, I.hok.fresh (Nat.le_refl _), rfl, fun l hl => by rw [I.tuple_inj hl hqx]; exact hx, fun l hl => by rw [I.tuple_inj hl hqy]; exact hy⟩, st', ht, fun c hcm => ?_⟩
      have hlt : c < s.heap.objs.size := by
        have e' : c = z ∨ c = TI ∨ c = TO ∨ c = i1 ∨ c = i2 := by simpa using hcm
        rcases e' with q | q | q | q | q
        · rw [q]
          cases t with
          | none => exact Heap.lt_size hz
          | some T => obtain ⟨f, hz⟩ := hz; exact Heap.lt_size hz
        · rw [q]; exact Heap.lt_size hTI
        · rw [q]; exact Heap.lt_size hTO
        · rw [q]; obtain ⟨_, e1, _⟩ := h1; exact Heap.lt_size e1
        · rw [q]; obtain ⟨_, e2, _⟩ := h2; exact Heap.lt_size e2
      rw [upd_ne (Nat.ne_of_lt hlt)]
      exact (hf c hcm).1
    cases t with
    | none =>
      refine RZ.pyNext_zipT_item D hz hTI hTO h1 h2 p p2 (x := u) (y := u2) (by simpa using hu) (by simpa using hu2) fun h' z' TO' h1' h2' hT hsz hk => ?_
      exact ⟨_, rfl, fin h' (some s.heap.objs.size) ⟨⟨false, z'⟩, hk _ _ D.TIz D.TITO D.TIi1 D.TIi2 hTI, ⟨u, u2, TO'⟩, h1', h2'⟩ (.inr ⟨rfl, rfl⟩) hT hk⟩
    | some T =>
      obtain ⟨f, hz⟩ := hz
      obtain ⟨oT, hoT⟩ := al T rfl
      refine pyNext_zipTH_item D hz hoT hTI h1 h2 p p2 (x := u) (y := u2) (by simpa using hu) (by simpa using hu2) fun h' z' h1' h2' hT hsz hk => ?_
      exact ⟨_, rfl, fin h' (some T) ⟨⟨true, z'⟩, hk _ _ D.TIz D.TIi1 D.TIi2 hTI, ⟨x0, y0, hk _ _ D.TOz D.TOi1 D.TOi2 hTO⟩, h1', h2'⟩ (.inl rfl) hT fun c o c1 c2 c3 c4 e => hk c o c1 c3 c4 e⟩
  done := by
    intro X hP hw hK hc i t pins s σ H E I hf st al hg
    subst hP hw hK
    obtain ⟨hz, hTI, ⟨x0, y0, hTO⟩, h1, h2⟩ := st
    obtain ⟨xs, ys, hqx, hqy, hend⟩ := hg
    obtain ⟨its, rv, p, _⟩ := I.tuple hqx
    obtain ⟨its2, rv2, p2, _⟩ := I.tuple hqy
    have l1 := rv.length
    have l2 := rv2.length
    have he : its.toArray[i]? = none ∨ its2.toArray[i]? = none := by
      rcases hend with q | q
      · exact .inl (by simp; omega)
      · exact .inr (by simp; omega)
    cases t with
    | none =>
      exact RZ.pyNext_zipT_end (I.ok.hd hc) D hz hTI hTO h1 h2 p p2 he fun h' hk => ⟨rfl, I.turnedL (t' := s.toks) (ch := [z, TI, TO, i1, i2]) (fun c o hb q =>
        hk c o (fun q' => hb (by simp [q'])) (fun q' => hb (by simp [q'])) (fun q' => hb (by simp [q'])) (fun q' => hb (by simp [q'])) q) hf⟩
    | some T =>
      obtain ⟨f, hz⟩ := hz
      obtain ⟨oT, hoT⟩ := al T rfl
      exact pyNext_zipTH_end (I.ok.hd hc) D hz hoT hTI h1 h2 p p2 he fun h' hk => ⟨rfl, I.turnedL (t' := s.toks) (ch := [z, TI, TO, i1, i2]) (fun c o hb q =>
        hk c o (fun q' => hb (by simp [q'])) (fun q' => hb (by simp [q'])) (fun q' => hb (by simp [q'])) q) hf⟩
  self := fun A i s Q E st h => wpAny_pyIter_zip st.1 h
/-! ### the block -/
def PIEN (X : Cx) (pins : List (Addr × Obj)) (σ : L2.St) (tg : Expr) (R : It → Hp → Prop) (itv : Value) (s2 : Shared) : Prop :=
  ∃ (it : Addr) (fp : List Addr) (tn : Nat → Option Addr → Heap → Prop) (J : It) (H' : Hp), itv = .ref it ∧ Inv X pins σ H' s2 ∧ TurnN X.prog X.w X.K tg J fp it tn ∧ tn 0 none s2.heap ∧ (∀ b ∈ fp, FpOk X pins H' b) ∧ R J H'
structure PIN (X : Cx) (tg iter : Expr) (wi : TI) : Prop where
  run : ∀ (pins : List (Addr × Obj)) (s : Shared) (σ : L2.St) (H : Hp) (R : It → Hp → Prop), Inv X pins σ H s → wi σ H R →
    wpAny (model X.prog X.w) X.A (eval iter X.env) (fun v s1 => wpAny (model X.prog X.w) X.A (pyIter v) (PIEN X pins σ tg R) X.xe s1) X.xe s
def tLcN (wi : TI) (g : TG) (tt : TT) (te : TE) (vs : List Nat) : TE := fun σ H Q => wi σ H fun J H1 => ∀ D, H1 D = none → ∃ W : Option Addr → Nat → Nat → Hp → Prop, (∃ m, W none 0 m (upd H1 D (.lst []))) ∧ ∀ t i m H, W t i m H → (∀ T, t = some T → H T ≠ none) ∧
  ((J.stop i H ∧ Q (.ref D) H) ∨ (J.go i H ∧ ∀ T H' t', J.yld i H (.ref T) H' → (t' = t ∨ (t = none ∧ t' = some T)) → ∃ Nx : Hp → Prop, (∀ H', Nx H' → ∃ m', m' < m ∧ W t' (i + 1) m' H') ∧ g (.ref T) (wipe σ vs) H' fun σ2 H2 => wipe σ2 vs = wipe σ vs ∧ tt σ2 H2 fun b H3 =>
    if b = true then te σ2 H3 fun y H4 => ∃ acc, H4 D = some (.lst acc) ∧ acc.length < sizeLine ∧ Nx (upd H4 D (.lst (acc ++ [y]))) else Nx H3))
section
variable {X : Cx}
theorem lcN_core {pins : List (Addr × Obj)} {s : Shared} {σ : L2.St} {H : Hp} {Q : VK} {elt tg iter : Expr} {ifs : List Expr} {scope : Scope} {own : List (Str × Nat)} {pos pos' : Pos} {wi : TI} {g : TG} {tt : TT} {te : TE} {use : Option (Value → Sem Unit)} {Qf : Value → Shared → Prop}
    (hc : X.calm = true) (hN : X.N.Nodup) (I : Inv X pins σ H s) (hi : PIN X tg iter wi) (ok : BlkOk X.N X.env.scope scope own)
    (hg : ∀ (s : Shared) (H : Hp) (C : Addr) (cl : List (Str × Addr)) (fp : List Addr), PG (X.blk s H scope (compEnvC scope cl C X.env) fp) tg g) (ht : ∀ (s : Shared) (H : Hp) (C : Addr) (cl : List (Str × Addr)) (fp : List Addr), PTs (X.blk s H scope (compEnvC scope cl C X.env) fp) ifs tt)
    (he : ∀ (s : Shared) (H : Hp) (C : Addr) (cl : List (Str × Addr)) (fp : List Addr), PE (X.blk s H scope (compEnvC scope cl C X.env) fp) elt te) (hs : ∀ x, foldedSetIterable iter X.env x = pure x)
    (h : tLcN wi g tt te (own.map (·.2)) σ H Q)
    (hRR : ∀ D C s' m H', Inv X pins σ H' s' → Q (.ref D) H' → s'.heap.Ns C m → FpOk X pins H' C → compPost (model X.prog X.w) X.A X.xe use Qf (.ref D) C (.ok .next) s') :
    wpAny (model X.prog X.w) X.A (comprehension (.ListComp elt [⟨tg, iter, ifs, 0⟩] scope pos) scope X.env pos' (newList []) false (eval iter X.env) use) Qf X.xe s := by
  have hfree : ∀ y ∈ scope.names, y.2 = .free → ∃ c, X.env.cells.lookup y.1 = some c := fun y hy e => (ok.free y hy e).elim (fun k => I.ok.has _ (.inl k)) fun k => I.ok.has _ (.inr k)
  refine wpAny_comprehension_free (use := use) rfl hs (closure_ok hfree) ok.kind (fun y hy e => by rw [ok.uniq y hy, e])
    (thn (hi.run pins s σ H _ I h) fun xv s1 hx => thn hx fun itv s2 ⟨it, fp, tn, J, H2, e, I2, T, st2, f2, q⟩ => ?_)
  subst e
  refine wpAny_newObj_type (newEnv_comp ?_) (by show 0 ≤ sizeLine; decide)
  generalize hD : s2.heap.objs.size = D
  have hDn : H2 D = none := I2.hok.fresh (Nat.le_of_eq hD)
  obtain ⟨W, ⟨m0, w0⟩, turn⟩ := q D hDn
  generalize hs3 : ({ s2 with heap := s2.heap.push { cls := .type "list", data := .seq ([] : List Value).toArray } } : Shared) = s3
  have I3 : Inv X pins σ (upd H2 D (.lst [])) s3 := by
    rw [← hs3]
    refine I2.laid (t' := s2.toks) (fun b o e => Heap.get?_push_of_some _ e) (Nat.le_of_eq hD) ⟨Nat.zero_le _, [], 0, .nil, ?_⟩
    rw [← hD]
    exact Heap.get?_push_size _ rfl
  have h3 : s3.heap = s2.heap.push { cls := .type "list", data := .seq ([] : List Value).toArray } := by rw [← hs3]
  have f3 : ∀ b ∈ fp, FpOk X pins (upd H2 D (.lst [])) b ∧ b < s3.heap.objs.size := fun b hb => by
    have hlt : b < s2.heap.objs.size := let ⟨o, e, _⟩ := T.obj _ _ _ st2 b hb; Heap.lt_size e
    refine ⟨⟨?_, (f2 b hb).2⟩, by rw [h3, Heap.size_push]; exact Nat.lt_succ_of_lt hlt⟩
    rw [upd_ne (by rw [← hD]; exact Nat.ne_of_lt hlt)]
    exact (f2 b hb).1
  have st3 : tn 0 none s3.heap := T.keep _ _ _ _ st2 fun b _ o e => by rw [h3]; exact Heap.get?_push_of_some _ e
  have I4 := block_start I3 ok hN f3
  have pg := hg s3 (upd H2 D (.lst [])) s3.heap.objs.size (cellsFrom (s3.heap.objs.size + 1) scope.names (cloFrom X.env.cells scope.names [])) fp
  have pt := ht s3 (upd H2 D (.lst [])) s3.heap.objs.size (cellsFrom (s3.heap.objs.size + 1) scope.names (cloFrom X.env.cells scope.names [])) fp
  have pe := he s3 (upd H2 D (.lst [])) s3.heap.objs.size (cellsFrom (s3.heap.objs.size + 1) scope.names (cloFrom X.env.cells scope.names [])) fp
  show codeAny _ _ (.compStart (.ListComp elt [⟨tg, iter, ifs, 0⟩] scope pos) 0 (.ref it) (.ref D) (compEnvC scope (cellsFrom (s3.heap.objs.size + 1) scope.names (cloFrom X.env.cells scope.names [])) s3.heap.objs.size X.env)) (compPost (model X.prog X.w) X.A X.xe use Qf (.ref D) s3.heap.objs.size) { s3 with heap := pushCells (s3.heap.push { cls := .type "dict", data := .dict #[] }) scope.names }
  have nfp : ∀ b ∈ fp, (upd H2 D (.lst [])) b = none := fun b hb => (f3 b hb).1.1
  generalize hce : compEnvC scope (cellsFrom (s3.heap.objs.size + 1) scope.names (cloFrom X.env.cells scope.names [])) s3.heap.objs.size X.env = ce at I4 pg pt pe ⊢
  have cL : ce.locals = s3.heap.objs.size := by subst hce; rfl
  generalize hH3 : upd H2 D (.lst []) = H3 at I3 I4 pg pt pe w0 nfp f3
  generalize hs4 : ({ s3 with heap := pushCells (s3.heap.push { cls := .type "dict", data := .dict #[] }) scope.names } : Shared) = s4 at I4 ⊢
  have st4 : tn 0 none s4.heap := T.keep _ _ _ _ st3 fun b _ o e => by rw [← hs4]; exact pushCells_keeps _ _ _ _ (Heap.get?_push_of_some _ e)
  have stat : ∀ {σ' : L2.St} {H' : Hp} {s' : Shared}, Inv (X.blk s3 H3 scope ce fp) [] σ' H' s' → (∀ b ∈ fp, H' b = none) → ∀ b ∈ fp, FpOk (X.blk s3 H3 scope ce fp) [] H' b := fun {σ' H' s'} I' hn b hb =>
    ⟨hn b hb, (I'.ok.exf b hb).1, I'.ok.exfs b hb, .inl hb, fun x c e => (I'.ok.exf b hb).2 x c e, fun p hp => absurd (show p ∈ ([] : List (Addr × Obj)) ++ [] from hp) (by simp)⟩
  have alive : ∀ {σ' : L2.St} {H' : Hp} {s' : Shared} {t : Option Addr}, Inv (X.blk s3 H3 scope ce fp) [] σ' H' s' → (∀ T, t = some T → H' T ≠ none) → Alive t s'.heap := fun {σ' H' s' t} I' hn T e => by
    cases q : H' T with
    | none => exact absurd q (hn T e)
    | some o => exact objok_some (I'.hok T o q)
  have loop : codeAny (model X.prog X.w) X.A (.compLoop (.ListComp elt [⟨tg, iter, ifs, 0⟩] scope pos) 0 (.ref it) (.ref D) ce) (compPost (model X.prog X.w) X.A X.xe use Qf (.ref D) s3.heap.objs.size) s4 := by
    refine compLoop_any (fun n s' => ∃ t i H', Inv (X.blk s3 H3 scope ce fp) [] (wipe σ (own.map (·.2))) H' s' ∧ tn i t s'.heap ∧ (∀ b ∈ fp, H' b = none) ∧ W t i n H') ?_ m0 ⟨none, 0, H3, I4, st4, nfp, w0⟩
    rintro n s5 ⟨t, i, H5, I5, st5, n5, w5⟩
    obtain ⟨ht5, w5'⟩ := turn t i n H5 w5
    rcases w5' with ⟨stop, qq⟩ | ⟨go, step⟩
    · refine thnF (T.done (X.blk s3 H3 scope ce fp) rfl rfl rfl hc i t [] s5 _ H5 (fun _ _ => False) I5 (stat I5 n5) st5 (alive I5 ht5) stop) fun r s6 ⟨hr, I6⟩ => ?_
      subst hr
      have I7 : Inv X pins σ H5 s6 := I3.call' (ch := fp) I6.os I6.base I6.hok I6.bare fun b hb => ⟨(f3 b hb).1.2.2.2.1, (f3 b hb).1.2.1, (f3 b hb).1.2.2.2.2.1, (f3 b hb).1.2.2.2.2.2⟩
      have nC : H5 s3.heap.objs.size = none := by
        have z : H5 ce.locals = none := I6.free
        rw [cL] at z
        exact z
      obtain ⟨m, hn, _⟩ := I6.loc
      have hn : s6.heap.Ns ce.locals m := hn
      rw [cL] at hn
      exact hRR D s3.heap.objs.size s6 m H5 I7 qq hn (I3.fpOk (Nat.le_refl _) nC)
    · refine thnF (T.item (X.blk s3 H3 scope ce fp) rfl rfl rfl hc i t [] s5 _ H5 (fun _ _ => False) I5 (stat I5 n5) st5 (alive I5 ht5) go) fun r s6 ⟨u, hr, h6⟩ => ?_
      subst hr
      refine thnF h6 fun _ s7 ⟨T7, t7, H7, I7, r7, y7, st7, ht7, n7⟩ => ?_
      obtain ⟨Nx, hNx, step⟩ := step T7 H7 t7 y7 ht7
      refine thnF (pg.run _ s7 _ H7 (.ref T7) u _ (I7.pinned (stat I7 n7) (T.obj _ _ _ st7)) r7 step) fun _ s8 ⟨σ8, H8, I8, hw8, q8⟩ => ?_
      refine thnF (pt.run _ s8 σ8 H8 _ I8 q8) fun b s9 ⟨H9, I9, q9⟩ => ?_
      have next : ∀ {s' : Shared} {H' : Hp}, Inv (X.blk s3 H3 scope ce fp) ([] ++ pinsAt fp s7.heap) σ8 H' s' → Nx H' → ∃ m, m < n ∧ ∃ t i H', Inv (X.blk s3 H3 scope ce fp) [] (wipe σ (own.map (·.2))) H' s' ∧ tn i t s'.heap ∧ (∀ b ∈ fp, H' b = none) ∧ W t i m H' := fun {s' H'} I' nx => by
        obtain ⟨m', hm, w'⟩ := hNx H' nx
        have pin' : ∀ b ∈ fp, ∀ o, s7.heap.get? b = some o → s'.heap.get? b = some o ∧ H' b = none := fun b hb o e =>
          let z := I'.pin (b, o) (List.mem_append_right _ (List.mem_append_right _ (mem_pinsAt hb e)))
          ⟨z.1, z.2.1⟩
        refine ⟨m', hm, t7, i + 1, H', (I'.unpinned (pins := [])).weak (by rw [← hw8, wipe_length]) (fun j v e => ?_), T.keep _ _ _ _ st7 fun b hb o e => (pin' b hb o e).1, fun b hb => ?_, w'⟩
        · rw [← hw8] at e
          exact (wipe_some e).1
        · obtain ⟨o, e, _⟩ := T.obj _ _ _ st7 b hb
          exact (pin' b hb o e).2
      cases b with
      | false =>
        simp only [Bool.false_eq_true, if_false] at q9 ⊢
        exact next I9 q9
      | true =>
        simp only [if_true] at q9 ⊢
        refine thnF (pe.run _ s9 σ8 H9 _ I9 q9) fun z s10 ⟨yv, H10, I10, r10, acc, hD10, hz10, nx⟩ => ?_
        exact app_ok (X := X.blk s3 H3 scope ce fp) I10 hD10 hz10 r10 fun s11 I11 => next I11 nx
  exact codeAny_compStart_list loop (T.self X.A 0 _ _ _ st4 loop)
theorem pe_lcN {elt tg iter : Expr} {ifs : List Expr} {scope : Scope} {own : List (Str × Nat)} {pos : Pos} {wi : TI} {g : TG} {tt : TT} {te : TE} (hc : X.calm = true) (hN : X.N.Nodup) (hi : PIN X tg iter wi) (ok : BlkOk X.N X.env.scope scope own)
    (hg : ∀ (s : Shared) (H : Hp) (C : Addr) (cl : List (Str × Addr)) (fp : List Addr), PG (X.blk s H scope (compEnvC scope cl C X.env) fp) tg g) (ht : ∀ (s : Shared) (H : Hp) (C : Addr) (cl : List (Str × Addr)) (fp : List Addr), PTs (X.blk s H scope (compEnvC scope cl C X.env) fp) ifs tt)
    (he : ∀ (s : Shared) (H : Hp) (C : Addr) (cl : List (Str × Addr)) (fp : List Addr), PE (X.blk s H scope (compEnvC scope cl C X.env) fp) elt te) (hs : ∀ x, foldedSetIterable iter X.env x = pure x := by intro _; rfl) :
    PE X (.ListComp elt [⟨tg, iter, ifs, 0⟩] scope pos) (tLcN wi g tt te (own.map (·.2))) := by
  refine ⟨fun pins s σ H Q I h => ?_⟩
  rw [eval_ListComp]
  refine lcN_core hc hN I hi ok hg ht he hs h fun D C s' m H' I' q hn f => ⟨m, hn, fun h'' sb => ?_⟩
  obtain ⟨f0, f1, f2, f3, f4, f5⟩ := f
  exact ⟨.ref D, H', I'.turned (t' := s'.toks) (fun b o hb e => (sb.2 b hb).trans e) f0 f1 f3 f4 f5, rfl, q⟩
end
/-! ### the walk -/
def zipT (xs ys : List D) : List D := (xs.zip ys).map fun p => .tup [p.1, p.2]
def JOkN (E : Ev) (J : It) (F : Hp) (ds : List D) : Prop := ∀ F2 H i, Sm F F2 → Same F2 H → (i < ds.length → J.go i H ∧ ∀ T H', J.yld i H (.ref T) H' → ∃ d F3, ds[i]? = some d ∧ Gr E F2 H F3 H' ∧ F3 T ≠ none ∧ At E F3 (.ref T) d) ∧ (ds.length ≤ i → J.stop i H)
theorem jokN_zip {E : Ev} {F : Hp} {a b : Addr} {xs ys : List V} {ds es : List D} (h1 : SqT E.K F a xs) (h2 : SqT E.K F b ys) (r1 : Ats E F xs ds) (r2 : Ats E F ys es) : JOkN E (ItzF E.K a b) F (zipT ds es) := fun F2 H i s sub => by
  have g1 : SqT E.K H a xs := sub.tupS (s.tupS h1)
  have g2 : SqT E.K H b ys := sub.tupS (s.tupS h2)
  have l1 := r1.len
  have l2 := r2.len
  have lz : (zipT ds es).length = min ds.length es.length := by unfold zipT; rw [List.length_map, List.length_zip]
  refine ⟨fun hi => ⟨⟨xs, ys, xs[i]'(by omega), ys[i]'(by omega), g1, g2, List.getElem?_eq_getElem _, List.getElem?_eq_getElem _⟩, ?_⟩, fun hi => ⟨xs, ys, g1, g2, by omega⟩⟩
  rintro x H' ⟨T, o, u, v, e, hO, hT, rfl, z1, z2⟩
  cases e
  obtain ⟨d, e1, a1⟩ := r1.getV (z1 xs g1)
  obtain ⟨e, e2, a2⟩ := r2.getV (z2 ys g2)
  have gr : Gr E F2 H (upd F2 x (.frz o (.tup [u, v]))) (upd H x (.frz o (.tup [u, v]))) := Gr.newF sub hT
  refine ⟨.tup [d, e], _, ?_, gr, by rw [upd_same]; simp, .tup sq_new (.cons ((a1.mv s).mv gr.f) (.cons ((a2.mv s).mv gr.f) .nil)) (tf_new hO)⟩
  unfold zipT
  rw [List.getElem?_map, List.getElem?_zip_eq_some (z := (d, e)) |>.mpr ⟨e1, e2⟩]
  rfl
def rIN (E : Ev) (B : Bs) (W : WX) (c : CI) : TI := fun σ H R => ∃ F as G C r C', Wd E B H F as C ∧ Sr E F as σ G ∧ c G C = some (r, C') ∧ match r with
  | .ok ds => ∀ F' H' J, Sm F F' → Wd E B H' F' as C' → JOkN E J F' ds → R J H'
  | .ex e => ∀ F' H' cls dx, Sm F F' → Wd E B H' F' as C' → ErAt E F' H' cls dx e → W cls dx σ H'

def iZipN (K : PySem.W.Frag) (ta : TA) : TI := fun σ H R => ta σ H fun vs H1 => ∃ a b xs ys, vs = [.ref a, .ref b] ∧ SqT K H1 a xs ∧ SqT K H1 b ys ∧ R (ItzF K a b) H1
theorem pin_zip {X : Cx} {e e2 : Expr} {ta : TA} {p pos tpos : Pos} {nm : Str} (hg : Gl X "zip") (hm : X.mg "zip" = none) (ha : PA X [e, e2] ta)
    (hs : starEach [e, e2] X.env = (false, eval e X.env) :: starEach [e2] X.env := by rfl) (hpl : (backTo pos (starEach [e2] X.env)).any (·.1) = false := by rfl) :
    PIN X (.Name nm tpos) (.Call (.Name "zip" p) [e, e2] [] pos) (iZipN X.K ta) := by
  refine ⟨fun pins s σ H R I h => ?_⟩
  refine Call_ (ld_blt I hg hm PyProof.Rows.boot_zip (PyProof.Rows.callWith_type1 (thn (ha.run pos pins s σ H _ I h) fun us s1 ⟨vs, H1, I1, r1, q1⟩ => ?_) hs hpl))
  obtain ⟨a, b, xs, ys, ex, hqx, hqy, q⟩ := q1
  subst ex
  cases r1 with
  | cons r rr =>
    cases rr with
    | cons r' rr =>
      cases rr
      cases r
      cases r'
      have fresh5 : ∀ c, c ∈ [s1.heap.objs.size + 4, s1.heap.objs.size + 2, s1.heap.objs.size + 3, s1.heap.objs.size, s1.heap.objs.size + 1] → FpOk X pins H1 c := fun c hcm => by
        have e' : c = s1.heap.objs.size + 4 ∨ c = s1.heap.objs.size + 2 ∨ c = s1.heap.objs.size + 3 ∨ c = s1.heap.objs.size ∨ c = s1.heap.objs.size + 1 := by simpa using hcm
        have hle : s1.heap.objs.size ≤ c := by
          rcases e' with z | z | z | z | z
          · rw [z]; exact Nat.le_add_right _ _
          · rw [z]; exact Nat.le_add_right _ _
          · rw [z]; exact Nat.le_add_right _ _
          · rw [z]; exact Nat.le_refl _
          · rw [z]; exact Nat.le_add_right _ _
        exact I1.fpOk hle (I1.hok.fresh hle)
      obtain ⟨its, rv, p1, _⟩ := I1.tuple hqx
      obtain ⟨its2, rv2, p2, _⟩ := I1.tuple hqy
      obtain ⟨o1, ho1, _⟩ := id p1
      obtain ⟨o2, ho2, _⟩ := id p2
      refine RZ.call_zipT (show s1.heap.IsTuple a its.toArray from p1) (show s1.heap.IsTuple b its2.toArray from p2) fun h' hz hTI hTO h1 h2 hsz hk => wpAny_pyIter_zip hz ?_
      have I2 : Inv X pins σ H1 { s1 with heap := h' } := I1.kept (t' := s1.toks) hk
      exact ⟨s1.heap.objs.size + 4, [s1.heap.objs.size + 4, s1.heap.objs.size + 2, s1.heap.objs.size + 3, s1.heap.objs.size, s1.heap.objs.size + 1], _, _, H1, rfl, I2, turnN_zip (PySem.W.ktu_apart s1.heap.objs.size a b (Heap.lt_size ho1) (Heap.lt_size ho2)), ⟨hz, hTI, ⟨_, _, hTO⟩, h1, h2⟩, fresh5, q⟩
theorem PIN.weak {X : Cx} {tg e : Expr} {w w' : TI} (h : PIN X tg e w) (k : ∀ σ H R, w' σ H R → w σ H R) : PIN X tg e w' := ⟨fun pins s σ H R I q => h.run pins s σ H R I (k σ H R q)⟩
section
variable {X : Cx} {E : Ev} {B : Bs} {W : WX} {a b : Expr} {ca cb : CE}
theorem rIN_two {f : D → D → Option (List D)} {σ : L2.St} {H : Hp} {R : It → Hp → Prop} (h : rIN E B W (i2 f ca cb) σ H R) : rE E B W ca σ H fun v H1 => ∃ dx, rE E B W cb σ H1 fun u H2 => ∃ F as C ds dy, Wd E B H2 F as C ∧ At E F v dx ∧ At E F u dy ∧ f dx dy = some ds ∧ ∀ J, JOkN E J F ds → R J H2 := by
  obtain ⟨F, as, G, C, r, C', wd, sr, q, po⟩ := h
  unfold i2 at q
  cases q1 : ca G C with
  | none => simp only [q1] at q; cases q
  | some p =>
    obtain ⟨x, C1⟩ := p
    simp only [q1] at q
    refine ⟨F, as, G, C, x, C1, wd, sr, trivial, q1, fun F' H' s w => ?_⟩
    cases x with
    | c k => cases q
    | n o => cases q
    | ex er => cases q; exact fun cls dx a => po F' H' cls dx s w a
    | v d =>
      intro v av
      simp only at q
      cases q2 : cb G C1 with
      | none => simp only [q2] at q; cases q
      | some p2 =>
        obtain ⟨y, C2⟩ := p2
        simp only [q2] at q
        refine ⟨d, F', as, G, C1, y, C2, w, sr.mv s (List.prefix_refl _), trivial, q2, fun F2 H2 s2 w2 => ?_⟩
        cases y with
        | c k => cases q
        | n o => cases q
        | ex er => cases q; exact fun cls dx a => po F2 H2 cls dx (s.tr s2) w2 a
        | v e =>
          intro u au
          simp only at q
          cases q3 : f d e with
          | none => rw [q3] at q; cases q
          | some ds =>
            rw [q3] at q
            cases q
            exact ⟨F2, as, _, ds, e, w2, av.mv s2, au, q3, fun J jo => po F2 H2 J (s.tr s2) w2 jo⟩
def fZipT (x y : D) : Option (List D) := match x, y with
  | .tup xs, .tup ys => some (zipT xs ys)
  | _, _ => none
theorem ivN_zip {p pos tpos : Pos} {nm : Str} (hK : X.K = E.K) (hg : Gl X "zip") (hm : X.mg "zip" = none) (ha : PE X a (rE E B W ca)) (hb : PE X b (rE E B W cb))
    (hs : starEach [a, b] X.env = (false, eval a X.env) :: starEach [b] X.env := by rfl) (hs2 : starEach [b] X.env = (false, eval b X.env) :: starEach [] X.env := by rfl) (hpl : (backTo pos (starEach [b] X.env)).any (·.1) = false := by rfl) : PIN X (.Name nm tpos) (.Call (.Name "zip" p) [a, b] [] pos) (rIN E B W (i2 fZipT ca cb)) :=
  PIN.weak (pin_zip hg hm (pa_cons ha (pa_cons hb pa_nil hs2) hs) hs hpl) fun σ H R h => rF_imp (rIN_two h) fun v H1 ⟨dx, hh1⟩ => rF_imp hh1 fun u H2 ⟨F, as, C, ds, dy, wd, a1, a2, e, k⟩ => by
    clear hh1
    cases dx with
    | tup xs =>
      cases dy with
      | tup ys =>
        cases e
        cases a1 with
        | tup h1 r1 =>
          cases a2 with
          | tup h2 r2 => exact ⟨_, _, _, _, rfl, by rw [hK]; exact wd.sub.tupS h1, by rw [hK]; exact wd.sub.tupS h2, by rw [hK]; exact k _ (jokN_zip h1 h2 r1 r2)⟩
      | _ => cases e
    | _ => cases e
theorem rE_lcN {ci : CI} {t : CT} {g : TG} {tt el : CE} {vs : List Nat} {TTr : TT} {TEr : TE} {σ : L2.St} {H : Hp} {Q : VK} (hg : TgOk E g t) (hw : TgW g vs)
    (hTT : ∀ B' σ H Q, rT E B' nev tt σ H Q → TTr σ H Q) (hTE : ∀ B' σ H Q, rE E B' nev el σ H Q → TEr σ H Q)
    (h : rE E B W (cLc ci t tt el vs) σ H Q) : tLcN (rIN E B W ci) g TTr TEr vs σ H Q := by
  obtain ⟨F, as, G, C, r, C', wd, sr, _, e, po⟩ := h
  unfold cLc at e
  cases q : ci G C with
  | none => simp only [q] at e; cases e
  | some p =>
    obtain ⟨r1, C1⟩ := p
    simp only [q] at e
    refine ⟨F, as, G, C, r1, C1, wd, sr, q, ?_⟩
    cases r1 with
    | ex er => cases e; exact fun F' H' cls dx s w a => po.ex s w a
    | ok ds =>
      simp only at e
      intro F' H' J s w jo Dd hD
      have fD : F' Dd = none := by
        cases q : F' Dd with
        | none => rfl
        | some u => rw [w.sub Dd u q] at hD; cases hD
      have nD : Dd ∉ as := fun z => (w.there Dd z).ne hD
      have bD : B.H0 Dd = none := w.nobase hD
      have f0D : B.F0 Dd = none := w.f0.none fD
      have w0 : Wd E B (upd H' Dd (.lst [])) F' as C1 := w.out fD nD bD _ (.inl hD)
      have srw := (sr.mv s (List.prefix_refl as)).wipe vs
      cases ql : lpC t tt el ds (wipeG G vs) C1 [] with
      | none => rw [ql] at e; cases e
      | some pl =>
      obtain ⟨l0, Cl⟩ := pl
      rw [ql] at e
      cases e
      refine ⟨fun th i m H => i + m = ds.length ∧ ∃ F C acc xs, Wd E B H F as C ∧ Sm F' F ∧ H Dd = some (.lst xs) ∧ F Dd = none ∧ (∀ T, th = some T → F T ≠ none) ∧ Ats E F xs acc ∧ lpC t tt el (ds.drop i) (wipeG G vs) C acc = some (l0, Cl) ∧ PoE E B W F as Cl σ (.n (.lst l0)) Q, ⟨ds.length, by omega, F', C1, [], [], w0, Sm.refl _, upd_same, fD, (fun T z => by cases z), .nil, by rw [List.drop_zero]; exact ql, po.imp s⟩, ?_⟩
      rintro th i m H1 ⟨him, F1, C2, acc, xs, w1, s1, hD1, fD1, hth, ax, e1, po1⟩
      refine ⟨fun T eT z => ?_, ?_⟩
      · cases q : F1 T with
        | none => exact hth T eT q
        | some u => rw [w1.sub T u q] at z; cases z
      have jj := jo F1 H1 i s1 w1.sub
      by_cases hi : i < ds.length
      · right
        obtain ⟨go, yl⟩ := jj.1 hi
        refine ⟨go, fun T H2 th' y hth' => ?_⟩
        let N : Hp → Prop := fun H2 => ∃ F C acc xs, Wd E B H2 F as C ∧ Sm F' F ∧ H2 Dd = some (.lst xs) ∧ F Dd = none ∧ (∀ T, th' = some T → F T ≠ none) ∧ Ats E F xs acc ∧ lpC t tt el (ds.drop (i + 1)) (wipeG G vs) C acc = some (l0, Cl) ∧ PoE E B W F as Cl σ (.n (.lst l0)) Q
        refine ⟨N, fun H2 z => ⟨m - 1, by omega, by omega, z⟩, ?_⟩
        obtain ⟨d, F3, ed, gr, nT, axd⟩ := yl T H2 y
        have w3 := w1.gr gr
        have hD3 : H2 Dd = some (.lst xs) := gr.h _ _ hD1 fD1 (fun _ z => by cases z)
        have fD3 : F3 Dd = none := gr.stay hD1 (fun _ z => by cases z) fD1
        have sm_ne : ∀ {Fa Fb : Hp} {x : Addr}, Sm Fa Fb → Fa x ≠ none → Fb x ≠ none := fun {Fa Fb x} sm h z => h (sm.none z)
        have th3 : ∀ T', th' = some T' → F3 T' ≠ none := fun T' e' => by
          rcases hth' with rfl | ⟨_, rfl⟩
          · exact sm_ne gr.f (hth T' e')
          · cases e'; exact nT
        rw [List.drop_eq_getElem_cons hi] at e1
        have ed2 : ds[i] = d := by
          rw [List.getElem?_eq_getElem hi] at ed
          exact Option.some.inj ed
        rw [ed2] at e1
        unfold lpC at e1
        cases qt : t d (wipeG G vs) with
        | none => rw [qt] at e1; cases e1
        | some G2 =>
          rw [qt] at e1
          simp only [Option.bind_some] at e1
          suffices key : g (.ref T) (wipe σ vs) H2 (fun σ3 H3 => TTr σ3 H3 fun b H4 => if b = true then TEr σ3 H4 fun y H5 => ∃ acc, H5 Dd = some (.lst acc) ∧ acc.length < sizeLine ∧ N (upd H5 Dd (.lst (acc ++ [y]))) else N H4) by
            have z := hw _ _ _ _ key
            rw [wipe_wipe] at z
            exact z
          refine hg F3 H2 as (wipe σ vs) (wipeG G vs) G2 (.ref T) d _ gr.sub axd (srw.mv (s1.tr gr.f) (List.prefix_refl _)) qt fun σ3 sr3 => ?_
          refine hTT ⟨upd B.H0 Dd (.lst xs), B.F0, B.own⟩ _ _ _ ?_
          cases qb : tt G2 C2 with
          | none => rw [qb] at e1; cases e1
          | some pb =>
            obtain ⟨rt, C4⟩ := pb
            rw [qb] at e1
            refine ⟨F3, as, G2, C2, rt, C4, w3.side hD3 fD3 nD bD, sr3, qb, ?_⟩
            cases rt with
            | ex er => cases e1
            | c k => cases e1
            | n o => cases e1
            | v db =>
              cases db with
              | bl b =>
                cases b with
                | false =>
                  intro F5 H5 s5 w5
                  obtain ⟨w6, hD5, fD5⟩ := w5.unside (B0 := F) (fun _ z => by cases z) bD f0D nD
                  exact ⟨F5, C4, acc, xs, w6, (s1.tr gr.f).tr s5, hD5, fD5, fun T' e' => sm_ne s5 (th3 T' e'), (ax.mv gr.f).mv s5, e1, po1.imp (gr.f.tr s5)⟩
                | true =>
                  intro F5 H5 s5 w5
                  simp only at e1
                  cases qe : el G2 C4 with
                  | none => rw [qe] at e1; cases e1
                  | some pe =>
                    obtain ⟨re, C6⟩ := pe
                    rw [qe] at e1
                    show TEr σ3 H5 _
                    refine hTE ⟨upd B.H0 Dd (.lst xs), B.F0, B.own⟩ _ _ _ ⟨F5, as, G2, C4, re, C6, w5, sr3.mv s5 (List.prefix_refl _), trivial, qe, fun F7 H7 s7 w7 => ?_⟩
                    cases re with
                    | ex er => cases e1
                    | c k => cases e1
                    | n o => cases e1
                    | v d' =>
                      intro v7 a7
                      simp only at e1
                      by_cases hf : acc.length < 100000
                      · rw [if_pos hf] at e1
                        obtain ⟨w8, hD8, fD8⟩ := w7.unside (B0 := F) (fun _ z => by cases z) bD f0D nD
                        have ax8 := ((ax.mv gr.f).mv s5).mv s7
                        refine ⟨xs, hD8, ?_, F7, C6, acc ++ [d'], xs ++ [v7], w8.out fD8 nD bD _ (.inr ⟨_, hD8⟩), ((s1.tr gr.f).tr s5).tr s7, upd_same, fD8, fun T' e' => sm_ne s7 (sm_ne s5 (th3 T' e')), ax8.app (.cons a7 .nil), e1, po1.imp ((gr.f.tr s5).tr s7)⟩
                        rw [ax8.len]
                        exact Nat.lt_of_lt_of_le hf (by decide)
                      · rw [if_neg hf] at e1; cases e1
              | _ => cases e1
      · left
        refine ⟨jj.2 (by omega), ?_⟩
        rw [List.drop_eq_nil_of_le (by omega)] at e1
        cases e1
        exact po1.back (fun _ z => by cases z) (Sm.refl _) w1 ⟨Dd, _, rfl, hD1, fD1, nD, bD, xs, rfl, ax⟩
theorem ev_lcN {elt tg iter : Expr} {ifs : List Expr} {scope : Scope} {own : List (Str × Nat)} {pos : Pos} {ci : CI} {t : CT} {g : TG} {tt el : CE} (hc : X.calm = true) (hN : X.N.Nodup) (hi : PIN X tg iter (rIN E B W ci)) (ok : BlkOk X.N X.env.scope scope own)
    (hg : ∀ (s : Shared) (H : Hp) (C : Addr) (cl : List (Str × Addr)) (fp : List Addr), PG (X.blk s H scope (compEnvC scope cl C X.env) fp) tg g) (tgo : TgOk E g t) (tgw : TgW g (own.map (·.2)))
    (ht : ∀ (s : Shared) (H : Hp) (C : Addr) (cl : List (Str × Addr)) (fp : List Addr), PTs (X.blk s H scope (compEnvC scope cl C X.env) fp) ifs (fun σ H Q => ∃ B', rT E B' nev tt σ H Q))
    (he : ∀ (s : Shared) (H : Hp) (C : Addr) (cl : List (Str × Addr)) (fp : List Addr), PE (X.blk s H scope (compEnvC scope cl C X.env) fp) elt (fun σ H Q => ∃ B', rE E B' nev el σ H Q)) (hs : ∀ x, foldedSetIterable iter X.env x = pure x := by intro _; rfl) :
    PE X (.ListComp elt [⟨tg, iter, ifs, 0⟩] scope pos) (rE E B W (cLc ci t tt el (own.map (·.2)))) :=
  PE.weak (pe_lcN hc hN hi ok hg ht he hs) fun _ _ _ h => rE_lcN tgo tgw (fun B' _ _ _ z => ⟨B', z⟩) (fun B' _ _ _ z => ⟨B', z⟩) h
end
end TL
set_option Elab.async false
set_option linter.all false
set_option maxRecDepth 100000
set_option maxHeartbeats 1000000
/-! Vx: x.index(y) of lists and tuples. -/
namespace TL
open PySem PySem.Spec PyProof.Rows L2 Gd
theorem hU65 {k : Nat} {A : Around} (r : Room k A) : A.units + 65 < cLine := by have := r.u200; omega
section
variable {X : Cx}
def rIndexT (K : PySem.W.Frag) : V → List V → Hp → VK → Prop := fun x xs H Q => ∃ (a : Addr) (y : V) (d : PyData) (ds : List PyData) (j : Nat) (z : PyData), x = V.ref a ∧ xs = [y] ∧ Dp K H (V.ref a) (.tuple ds) ∧ Dp K H y d ∧
  SeqAt.shaped (.list ds) = true ∧ SeqAt.shaped d = true ∧ ds[j]? = some z ∧ PyData.eqv z d = true ∧ (∀ (m : Nat) (z' : PyData), m < j → ds[m]? = some z' → PyData.eqv z' d = false) ∧ Q (.int (j : Nat)) H
theorem mt_indexT (hu : X.A.units + 65 < cLine) : MtR X "tuple.index" (rIndexT X.K) := by
  intro pins s σ H x xs v us Q I rx rxs h
  obtain ⟨a, y, d, ds, j, z, rfl, rfl, hl, hy, sl, sd, hz, hzj, hno, q⟩ := h
  cases rx
  cases rxs with
  | cons ry rt =>
    rename_i uy ut
    cases rt
    obtain ⟨bs, r1⟩ := Dp.reads I d y uy hy ry
    have hxs : PyData.canLayAll0 ds = true := SeqAt.canLay_of_shaped sl
    have hroom : X.A.units + 1 + min (PyData.depthAll ds) d.depth < cLine := room_in_shaped sd hu
    cases hl with
    | tup hs ha =>
      obtain ⟨its, rv, ⟨⟨cls, dd, data, sls⟩, ho, hc, n, hdt⟩, hlen⟩ := I.tuple hs
      simp only at hc hdt
      subst hc hdt
      obtain ⟨as, h4⟩ := Dp.readsAll I ds _ its ha rv
      have hn : its.length = ds.length := SeqAt.ReadsAll.length ds its as h4
      have hmap : its.map (SeqAt.readOf s.heap) = ds := SeqAt.readsAll_map ds its as hxs h4
      have hvl := rv.length
      have hsl := sizeLine_eq
      obtain ⟨hjd, _⟩ := List.getElem?_eq_some_iff.mp hz
      have hjl : j < its.length := by omega
      have hj : j < its.toArray.size := by simpa using hjl
      have at_ : ∀ (m : Nat) (hm : m < its.toArray.size) (z' : PyData), ds[m]? = some z' → SeqAt.readOf s.heap its.toArray[m] = z' := by
        intro m hm z' hz'
        have hml : m < its.length := by simpa using hm
        rw [← hmap, List.getElem?_map, List.getElem?_eq_getElem hml] at hz'
        have e1 : SeqAt.readOf s.heap its[m] = z' := Option.some.inj (show some (SeqAt.readOf s.heap its[m]) = some z' from hz')
        simpa using e1
      refine call_meets PySem.F.slot_tuple_index ⟨_, ho, rfl⟩ PySem.F.entry_tuple_index (PySem.F.args_tuple_index_2 _ _)
        (TI.tuple_indexAt a its.toArray n dd sls uy (fun u => PyData.eqv (SeqAt.readOf s.heap u) d) j hj ?_ ?_) ⟨ho, SeqAt.items_eqAt (vs := its.toArray) (show ReadsAll s.heap its.toArray.toList ds as from h4) r1 hxs (SeqAt.canLay_of_shaped sd) hroom, ?_⟩
      · show PyData.eqv (SeqAt.readOf s.heap its.toArray[j]) d = true
        rw [at_ j hj z hz]
        exact hzj
      · intro m hm hmj
        have hmd : m < ds.length := by omega
        have hz' : ds[m]? = some ds[m] := List.getElem?_eq_getElem hmd
        show PyData.eqv (SeqAt.readOf s.heap its.toArray[m]) d = false
        rw [at_ m hm _ hz']
        exact hno m _ hmj hz'
      · exact ⟨.int (j : Nat), H, I.tok _, ⟨_, rfl⟩, q⟩
/-- a method of a tuple that has no dict of its own -/
def tBMT (K : PySem.W.Frag) (r : V → List V → Hp → VK → Prop) (to : TE) (t : TA) : TE := fun σ H Q => to σ H fun x H1 => (∃ p xs, x = .ref p ∧ SqT K H1 p xs ∧ TF K H1 p) ∧ t σ H1 fun xs H2 => r x xs H2 Q
theorem tf_at {pins : List (Addr × Obj)} {σ : L2.St} {H : Hp} {s : Shared} {p : Addr} {xs : List V} (I : L2.Inv X pins σ H s) (h : SqT X.K H p xs) (f : TF X.K H p) : s.TypeIs (.ref p) "tuple" ∧ ∀ a, Value.ref p = .ref a → ∃ ob, s.heap.get? a = some ob ∧ ob.dict = none := by
  obtain ⟨its, _, pl, _⟩ := I.tuple h
  refine ⟨IsTup.typeIs pl, fun a e => ?_⟩
  cases e
  rcases f with ⟨o, u, e, c, d⟩ | ⟨o, e, c, d⟩
  · exact ⟨o, (I.hok p _ e).1, d⟩
  · exact ⟨o, I.kIn p o e, d⟩
theorem pe_bmT {o e : Expr} {es : List Expr} {to : TE} {t : TA} {name : Str} {apos cpos : Pos} {id : String} {r : V → List V → Hp → VK → Prop} (pa : PlainAttrs "tuple") (slot : Slot "tuple" name id) (hty : typeOf (.builtin id) = pure (.type "method_descriptor")) (hm : MtR X id r) (ho : PE X o to) (ha : PA X (e :: es) t)
    (hbase : attributeBase o name X.env (eval o X.env) = eval o X.env := by rfl)
    (hfew : ((backTo cpos (starEach (e :: es) X.env)).all (fun x => !x.1) && (backToKw cpos (keywordEach [] X.env)).all (fun x => x.1.isSome)
      && decide ((e :: es).length + ([] : List Keyword).length + (if ([] : List Keyword).isEmpty then 0 else 1) < 30)) = true := by rfl)
    (hline : (apos.endLine == cpos.line) = true := by rfl) (hs : starEach (e :: es) X.env = (false, eval e X.env) :: starEach es X.env := by rfl) (hplain : (backTo cpos (starEach es X.env)).any (·.1) = false := by rfl) :
    PE X (.Call (.Attribute o name apos) (e :: es) [] cpos) (tBMT X.K r to t) := by
  refine ⟨fun pins s σ H Q I h => ?_⟩
  refine wpAny_Call_method_late hbase hfew hline rfl (thn (ho.run pins s σ H _ I h) fun v s1 ⟨x, H1, I1, r1, ⟨p, xs, ex, sq, tf⟩, q1⟩ => ?_)
  subst ex
  obtain rfl : v = Value.ref p := r1
  obtain ⟨h1, h2⟩ := tf_at I1 sq tf
  refine ⟨"tuple", id, pa, slot, hty, h1, h2, ?_⟩
  have hA := ha.run cpos pins s1 σ H1 _ I1 q1
  rw [hs] at hA ⊢
  refine Calls.callWith_builtin (by show (false || (backTo cpos (starEach es X.env)).any (·.1)) = false; rw [hplain] <;> rfl) (Calls.evalArgs_plain ?_)
  exact thn hA fun us s2 ⟨vs, H2, I2, r2, q2⟩ => hm pins s2 σ H2 (.ref p) vs (.ref p) us Q I2 rfl r2 q2
end
def idxP (qs : List PyData) (p : PyData) : Option Nat := qs.findIdx? fun z => PyData.eqv z p
def fIdx0 (ds : List D) (y : D) : Option Rd1 := (toPs ds).bind fun qs => (toP y).bind fun p => if SeqAt.shaped (.list qs) = true ∧ SeqAt.shaped p = true then (idxP qs p).map fun j => .v (.int (j : Nat)) else none
def fIdxL (x y : D) : Option Rd1 := match x with
  | .lst ds => fIdx0 ds y
  | _ => none
def fIdxT (x y : D) : Option Rd1 := match x with
  | .tup ds => fIdx0 ds y
  | _ => none
def cIdx (co ca : CE) : CE := fun G C => bv (co G C) fun x C1 => match peek C1 x with
  | some (.lst _) => bv (ca G C1) fun y C2 => out ((peek C2 x).bind fun dx => (peek C2 y).bind fun dy => fIdxL dx dy) C2
  | some (.tup _) => bv (ca G C1) fun y C2 => out ((peek C2 x).bind fun dx => (peek C2 y).bind fun dy => fIdxT dx dy) C2
  | _ => none
theorem fIdx_inv {ds : List D} {y : D} {z : Rd1} (e : fIdx0 ds y = some z) :
    ∃ qs p j w, toPs ds = some qs ∧ toP y = some p ∧ SeqAt.shaped (.list qs) = true ∧ SeqAt.shaped p = true ∧ qs[j]? = some w ∧ PyData.eqv w p = true ∧ (∀ (m : Nat) (z' : PyData), m < j → qs[m]? = some z' → PyData.eqv z' p = false) ∧ z = .v (.int (j : Nat)) := by
  unfold fIdx0 at e
  cases q1 : toPs ds with
  | none => rw [q1] at e; cases e
  | some qs =>
    cases q2 : toP y with
    | none => rw [q1, q2] at e; cases e
    | some p =>
      rw [q1, q2] at e
      simp only [Option.bind_some] at e
      by_cases c : SeqAt.shaped (.list qs) = true ∧ SeqAt.shaped p = true
      · rw [if_pos c] at e
        cases q3 : idxP qs p with
        | none => rw [q3] at e; cases e
        | some j =>
          rw [q3] at e
          cases e
          unfold idxP at q3
          obtain ⟨hj, h1, h2⟩ := List.findIdx?_eq_some_iff_getElem.mp q3
          refine ⟨qs, p, j, qs[j], rfl, rfl, c.1, c.2, List.getElem?_eq_getElem hj, h1, fun m z' hm hz => ?_, rfl⟩
          obtain ⟨hl, rfl⟩ := List.getElem?_eq_some_iff.mp hz
          have := h2 m hm
          simpa using this
      · rw [if_neg c] at e; cases e
section
variable {X : Cx} {E : Ev} {B : Bs} {W : WX}
theorem toPs_len : ∀ {ds : List D} {qs : List PyData}, toPs ds = some qs → ds.length = qs.length
  | [], _, e => by simp only [toPs] at e; cases e; rfl
  | d :: ds, _, e => by
    simp only [toPs] at e
    cases q1 : toP d with
    | none => rw [q1] at e; cases e
    | some p =>
      cases q2 : toPs ds with
      | none => rw [q1, q2] at e; cases e
      | some ps => rw [q1, q2] at e; cases e; exact congrArg (· + 1) (toPs_len q2)
theorem ev_index {o e : Expr} {co ca : CE} {apos cpos : Pos} (hK : X.K = E.K) (hu : X.A.units + 65 < cLine) (ho : PE X o (rE E B W co)) (ha : PE X e (rE E B W ca))
    (hbase : attributeBase o "index" X.env (eval o X.env) = eval o X.env := by rfl)
    (hfew : ((backTo cpos (starEach [e] X.env)).all (fun x => !x.1) && (backToKw cpos (keywordEach [] X.env)).all (fun x => x.1.isSome)
      && decide (([e] : List Expr).length + ([] : List Keyword).length + (if ([] : List Keyword).isEmpty then 0 else 1) < 30)) = true := by rfl)
    (hline : (apos.endLine == cpos.line) = true := by rfl) (hs : starEach [e] X.env = (false, eval e X.env) :: starEach [] X.env := by rfl) (hplain : (backTo cpos (starEach [] X.env)).any (·.1) = false := by rfl) :
    PE X (.Call (.Attribute o "index" apos) [e] [] cpos) (rE E B W (cIdx co ca)) := by
  refine PE.weak (PE.or (pe_bm PySem.F.plainAttrs_list PySem.F.slot_list_index PySem.F.type_list_index (mt_indexD hu) ho (pa_cons ha pa_nil hs) (hbase := hbase) (hfew := hfew) (hs := hs) (hplain := hplain) (hline := hline))
    (pe_bmT PySem.F.plainAttrs_tuple PySem.F.slot_tuple_index PySem.F.type_tuple_index (mt_indexT hu) ho (pa_cons ha pa_nil hs) (hbase := hbase) (hfew := hfew) (hs := hs) (hplain := hplain) (hline := hline))) fun σ H Q h => ?_
  obtain ⟨F, as, G, C, r, C', wd, sr, _, e, po⟩ := h
  unfold cIdx at e
  have body : ∀ (f : D → D → Option Rd1) (C1 : Cs) (x : Sv), (bv (ca G C1) fun y C2 => out ((peek C2 x).bind fun dx => (peek C2 y).bind fun dy => f dx dy) C2) = some (r, C') → ∀ F1 H1 v, Sm F F1 → Wd E B H1 F1 as C1 → SvAt E F1 as v x →
      rE E B W ca σ H1 fun u H2 => ∃ F2 dx dy z, Same F2 H2 ∧ Pk E F2 H2 v dx ∧ Pk E F2 H2 u dy ∧ f dx dy = some z ∧ ∀ F' H' w, Gr E F2 H2 F' H' → R1At E F2 H2 F' H' w z → Q w H' := fun f C1 x e F1 H1 v s1 w1 a1 => by
    have h1 : rF E B W (fun F as => SvAt E F as v x) (fun G C => bv (ca G C) fun y C2 => out ((peek C2 x).bind fun dx => (peek C2 y).bind fun dy => f dx dy) C2) σ H1 Q := ⟨F1, as, G, C1, r, C', w1, sr.mv s1 (List.prefix_refl _), a1, e, po.imp s1⟩
    refine rF_imp (rF_bv (c := ca) (k := fun G y C2 => out ((peek C2 x).bind fun dx => (peek C2 y).bind fun dy => f dx dy) C2) (fun F F' as s h => h.mv s (List.prefix_refl _)) h1) fun u H2 ⟨y, h2⟩ => ?_
    obtain ⟨F2, as2, G2, C2, z, wd2, sr2, ⟨ax, ay⟩, e2, k⟩ := rF_out h2
    cases q1 : peek C2 x with
    | none => rw [q1] at e2; cases e2
    | some dx =>
      cases q2 : peek C2 y with
      | none => rw [q1, q2] at e2; cases e2
      | some dy =>
        rw [q1, q2] at e2
        exact ⟨F2, dx, dy, z, wd2.sub, peek_pk wd2 ax q1, peek_pk wd2 ay q2, e2, k⟩
  have go : ∀ (x : Sv) (C1 : Cs), co G C = some (x.rs, C1) → (match peek C1 x with
      | some (.lst _) => bv (ca G C1) fun y C2 => out ((peek C2 x).bind fun dx => (peek C2 y).bind fun dy => fIdxL dx dy) C2
      | some (.tup _) => bv (ca G C1) fun y C2 => out ((peek C2 x).bind fun dx => (peek C2 y).bind fun dy => fIdxT dx dy) C2
      | _ => none) = some (r, C') → tBM X.K "list" (rIndexD X.K) (rE E B W co) (tCons (rE E B W ca) tNil) σ H Q ∨ tBMT X.K (rIndexT X.K) (rE E B W co) (tCons (rE E B W ca) tNil) σ H Q := fun x C1 q e => by
    have at1 : ∀ {F1 H1 : Hp} {v : V}, RsAt E B F1 H1 as v x.rs → SvAt E F1 as v x := fun {F1 H1 v} a => by cases x <;> exact a
    cases q1 : peek C1 x with
    | none => rw [q1] at e; cases e
    | some d0 =>
      rw [q1] at e
      cases d0 with
      | lst ds0 =>
        refine .inl ⟨F, as, G, C, x.rs, C1, wd, sr, trivial, q, .of (fun er z => by cases x <;> cases z) fun F1 H1 v s1 w1 _ a1 => ⟨?_, ?_⟩⟩
        · obtain ⟨p, xs, rfl, h, _⟩ := (peek_pk w1 (at1 a1) q1).list w1.sub
          exact .inl ⟨rfl, xs, SqL.of h⟩
        · refine rF_imp (body fIdxL C1 x e F1 H1 v s1 w1 (at1 a1)) fun u H2 ⟨F2, dx, dy, z, sub, pv, pu, e2, k⟩ => ?_
          cases dx with
          | lst ds =>
            obtain ⟨qs, p, j, w, e1, e3, s1, s2, hj, hw, hno, rfl⟩ := fIdx_inv (show fIdx0 ds dy = some z from e2)
            obtain ⟨a, vs, rfl, h, r⟩ := pv.list sub
            exact ⟨a, u, p, qs, j, w, rfl, rfl, .lst (SqL.of h) (by rw [hK]; exact ats_dp (r.mv (.of sub)) e1), by rw [hK]; exact at_dp (pu.at sub) e3, s1, s2, hj, hw, hno, fin0 sub k (.int _)⟩
          | _ => cases e2
      | tup ds0 =>
        refine .inr ⟨F, as, G, C, x.rs, C1, wd, sr, trivial, q, .of (fun er z => by cases x <;> cases z) fun F1 H1 v s1 w1 _ a1 => ⟨?_, ?_⟩⟩
        · obtain ⟨p, xs, rfl, h, _, f⟩ := (peek_pk w1 (at1 a1) q1).tupF
          exact ⟨p, xs, rfl, by rw [hK]; exact w1.sub.tupS h, by rw [hK]; exact (Sm.of w1.sub).tf f⟩
        · refine rF_imp (body fIdxT C1 x e F1 H1 v s1 w1 (at1 a1)) fun u H2 ⟨F2, dx, dy, z, sub, pv, pu, e2, k⟩ => ?_
          cases dx with
          | tup ds =>
            obtain ⟨qs, p, j, w, e1, e3, s1, s2, hj, hw, hno, rfl⟩ := fIdx_inv (show fIdx0 ds dy = some z from e2)
            obtain ⟨a, vs, rfl, h, r⟩ := pv.tup
            exact ⟨a, u, p, qs, j, w, rfl, rfl, .tup (by rw [hK]; exact sub.tupS h) (by rw [hK]; exact ats_dp (r.mv (.of sub)) e1), by rw [hK]; exact at_dp (pu.at sub) e3, s1, s2, hj, hw, hno, fin0 sub k (.int _)⟩
          | _ => cases e2
      | _ => cases e
  cases q : co G C with
  | none => rw [q] at e; cases e
  | some p =>
    obtain ⟨x, C1⟩ := p
    rw [q] at e
    cases x with
    | v d => exact go (.v d) C1 q e
    | c k => exact go (.c k) C1 q e
    | n o => cases e
    | ex er =>
      cases e
      exact .inl ⟨F, as, G, C, .ex er, _, wd, sr, trivial, q, fun F1 H1 s w => po F1 H1 s w⟩
end
end TL
set_option Elab.async false
set_option linter.all false
set_option maxRecDepth 100000
set_option maxHeartbeats 2000000
/-! Vy: enumerate over lists and tuples; name = {.. for ..} on one line. -/
namespace TL
open PySem PySem.Spec PyProof.Rows L2 Gd
theorem meets_enum1 {v : Value} {o : Obj} {H : Heap → Prop} (B : Begins v o H) :
    Meets (Builtin.«enumerate.__new__» ⟨[.type "enumerate", v], []⟩) (fun _ R s => H s.heap ∧
      R (.ok (.ret (.ref (s.heap.push o).objs.size))) { s with heap := (s.heap.push o).push { cls := .type "enumerate", data := .fields #[.none, .bool false, .ref s.heap.objs.size, rawInt 0, .none, .none] } }) :=
  .of_wp fun prog w A R s ⟨h1, h2⟩ => by
    cases s with
    | mk hp g d tk os =>
      have hsub := sub_enumerate
      have begins : ∀ {A' : Around} {E Q : Value → Shared → Prop}, Q (.ref hp.objs.size) ⟨hp.push o, g, d, tk, os⟩ → wpAny (model prog w) A' (pyIter v) Q E ⟨hp, g, d, tk, os⟩ := fun q => B.iter prog w _ _ ⟨hp, g, d, tk, os⟩ _ h1 q
      wp_walk using begins
      refine wpAny_stack_any fun st => wpAny_pure ?_
      split
      · rename_i c _ _ _ _ _
        cases (c == Value.type "enumerate") <;> (wp_walk using begins; exact ⟨_, rfl, h2⟩)
      · wp_walk using begins
        exact ⟨_, rfl, h2⟩
theorem call_enum1 {prog : Program} {w : World} {A : Around} {E : Value → Shared → Prop} {s : Shared} {v : Value} {o : Obj} {H : Heap → Prop} {Q : Value → Shared → Prop} (B : Begins v o H) (h1 : H s.heap)
    (h : ∀ h', IsEnum h' (s.heap.objs.size + 1) s.heap.objs.size 0 .none → h'.get? s.heap.objs.size = some o → (∀ b o, s.heap.get? b = some o → h'.get? b = some o) → Q (.ref (s.heap.objs.size + 1)) { s with heap := h' }) :
    wpAny (model prog w) A (call (.type "enumerate") [v]) Q E s := by
  refine callType_new F.called_enumerate (by decide) (F.typeCall_enumerate_1 _) (F.newCall_enumerate_1 _) (fun obj => F.args_object_init_2 obj _) F.entry_enumerate_new (meets_enum1 B) ⟨h1, ?_⟩
  have hz : (s.heap.push o).objs.size = s.heap.objs.size + 1 := Heap.size_push ..
  have he := Heap.get?_push_size (s.heap.push o) (o := { cls := .type "enumerate", data := .fields #[.none, .bool false, .ref s.heap.objs.size, rawInt 0, .none, .none] }) rfl
  show _ ∧ _
  rw [hz] at he ⊢
  exact ⟨⟨_, he, rfl⟩, h _ he (Heap.get?_push_of_some _ (Heap.get?_push_size _ B.free)) fun b o x => Heap.get?_push_of_some _ (Heap.get?_push_of_some _ x)⟩
/-- the tuple at a, each item in a new pair with its place -/
def IteT (K : PySem.W.Frag) (a : Addr) : It :=
  ⟨fun i H => ∃ (xs : List V) (x : V), SqT K H a xs ∧ xs[i]? = some x, fun i H v H' => ∃ T x, v = .ref T ∧ H T = none ∧ H' = upd H T (.tup [.int (i : Nat), x]) ∧ ∀ xs, SqT K H a xs → xs[i]? = some x, fun i H => ∃ xs : List V, SqT K H a xs ∧ xs.length = i⟩
def enumSt (a e it : Addr) (i : Nat) (h : Heap) : Prop := (∃ old, IsEnum h e it ((i : Nat) : Int) old) ∧ h.IsTupleIter it a i ∧ e ≠ it ∧ a ≠ it ∧ a ≠ e
theorem turn_enumT {P : Program} {w : World} {K : PySem.W.Frag} {elts : List Expr} {kk : Nat} {tpos : Pos} (a e it : Addr) :
    Turn P w K (.Tuple elts kk tpos) (IteT K a) [e, it] e (enumSt a e it) where
  mem := List.mem_cons_self
  obj := fun i h st b hb => by
    obtain ⟨⟨old, he⟩, ⟨o, ho, hc, hd⟩, _⟩ := st
    rcases List.mem_cons.mp hb with rfl | hb
    · exact ⟨_, he, fun v q => nomatch q⟩
    · rw [List.mem_singleton.mp hb]; exact ⟨o, ho, fun v q => by rw [hd] at q; cases q⟩
  keep := fun i h h' ⟨⟨old, he⟩, hi, ne⟩ k => ⟨⟨old, k e List.mem_cons_self _ he⟩, hi.at fun o q => k it (List.mem_cons_of_mem _ List.mem_cons_self) o q, ne⟩
  item := by
    intro X hP hw hK hc i pins s σ H E I hf st hg
    subst hP hw hK
    obtain ⟨⟨old, he⟩, hit, n1, n2, n3⟩ := st
    obtain ⟨xs, x, hq, hx⟩ := hg
    obtain ⟨its, rv, p, hz⟩ := I.tuple hq
    obtain ⟨u, hu, ru⟩ := rv.get hx
    have lt_e : e < s.heap.objs.size := Heap.lt_size he
    have lt_it : it < s.heap.objs.size := hit.elim fun _ q => Heap.lt_size q.1
    have il : i < its.toArray.size := by simpa using (List.getElem?_eq_some_iff.mp hu).1
    refine wpAny_pyNext_enum_itemD (Draws.tuple (A := X.A.in1) (I.ok.hd hc) it a n2 its.toArray) he ⟨hit, p⟩ il n1 (by simp [n1, Ne.symm n3]) fun v h' tk pv ho hst' hT hsz hk => ?_
    have ev : v = u := by
      have z : its[i]? = some v := by simpa using pv
      rw [hu] at z
      exact (Option.some.inj z).symm
    subst ev
    refine ⟨_, rfl, wpAny_letOwnedTupleGo_enum (s := { s with heap := h', toks := tk + 1 }) ho fun h2 he2 sb => ?_⟩
    have hT2 := (sb.2 _ (Nat.ne_of_gt lt_e)).trans hT
    have nw : ObjOk X.prog X.w (upd H s.heap.objs.size (.tup [.int (i : Nat), x])) h2 s.heap.objs.size (.tup [.int (i : Nat), x]) := ⟨by show 2 ≤ sizeLine; decide, [.int i tk, v], .cons ⟨_, rfl⟩ (.cons ru .nil), ⟨_, hT2, rfl, _, rfl⟩⟩
    have I1 : Inv X pins σ (upd H s.heap.objs.size (.tup [.int (i : Nat), x])) { s with heap := h2, toks := tk + 1 } :=
      I.turnedNew (ch := [e, it]) (fun b ob hb q => (sb.2 b (fun z => hb (by simp [z]))).trans (hk b ob (fun z => hb (by simp [z])) (fun z => hb (by simp [z])) q)) hf (Nat.le_refl _) nw
    refine ⟨.ref s.heap.objs.size, _, I1, rfl, ⟨_, x, rfl, I.hok.fresh (Nat.le_refl _), rfl, fun ys hy => by rw [I.tuple_inj hy hq]; exact hx⟩, ⟨⟨v, ?_⟩, hst'.1.at fun o q => (sb.2 it (Ne.symm n1)).trans q, n1, n2, n3⟩, fun b hb => ?_⟩
    · rw [Int.natCast_succ]; exact he2
    · have lt_b : b < s.heap.objs.size := by
        rcases List.mem_cons.mp hb with rfl | hb
        · exact lt_e
        · rw [List.mem_singleton.mp hb]; exact lt_it
      rw [upd_ne (Nat.ne_of_lt lt_b)]
      exact (hf b hb).1
  done := by
    intro X hP hw hK hc i pins s σ H E I hf st hg
    subst hP hw hK
    obtain ⟨⟨old, he⟩, hit, n1, n2, n3⟩ := st
    obtain ⟨xs, hq, hx⟩ := hg
    obtain ⟨its, rv, p, hz⟩ := I.tuple hq
    obtain ⟨f0, f1, f2, f3, f4, f5⟩ := hf it (List.mem_cons_of_mem _ List.mem_cons_self)
    have hl : its.toArray.size = i := by rw [List.size_toArray, ← rv.length, hx]
    exact wpAny_pyNext_enum_endD (Draws.tuple (A := X.A.in1) (I.ok.hd hc) it a n2 its.toArray) he (by rw [hl]; exact ⟨hit, p⟩) fun h' eb => ⟨rfl, I.turned (t' := s.toks) (fun b o hb q => eb b o hb q) f0 f1 f3 f4 f5⟩
  self := fun A i s Q E ⟨⟨_, he⟩, _⟩ h => wpAny_pyIter_enum he h
def iEnumT (K : PySem.W.Frag) (ta : TA) : TI := fun σ H R => ta σ H fun vs H1 => ∃ a xs, vs = [.ref a] ∧ SqT K H1 a xs ∧ R (IteT K a) H1
theorem pi_enumT {X : Cx} {e : Expr} {ta : TA} {p pos tpos : Pos} {elts : List Expr} {kk : Nat} (hg : Gl X "enumerate") (hm : X.mg "enumerate" = none) (ha : PA X [e] ta) (hs : starEach [e] X.env = [(false, eval e X.env)] := by rfl) :
    PI X (.Tuple elts kk tpos) (.Call (.Name "enumerate" p) [e] [] pos) (iEnumT X.K ta) := by
  refine ⟨fun pins s σ H R I h => ?_⟩
  refine Call_ (ld_blt I hg hm boot_enumerate (PyProof.Rows.callWith_type1 (thn (ha.run pos pins s σ H _ I h) fun us s1 ⟨vs, H1, I1, r1, a, xs, ex, hq, q⟩ => ?_) hs rfl))
  subst ex
  cases r1 with
  | cons r rr =>
    cases rr
    cases r
    obtain ⟨its, rv, pt, hz⟩ := I1.tuple hq
    obtain ⟨ot, hot, _⟩ := id pt
    have lt_a : a < s1.heap.objs.size := Heap.lt_size hot
    refine call_enum1 (begins_tuple a its.toArray) pt fun h' he hit hk => wpAny_pyIter_enum he ?_
    have I2 : Inv X pins σ H1 { s1 with heap := h' } := I1.kept (t' := s1.toks) hk
    refine ⟨s1.heap.objs.size + 1, [s1.heap.objs.size + 1, s1.heap.objs.size], _, _, H1, rfl, I2, turn_enumT a (s1.heap.objs.size + 1) s1.heap.objs.size, ⟨⟨.none, he⟩, ⟨_, hit, rfl, rfl⟩, Nat.succ_ne_self _, Nat.ne_of_lt lt_a, Nat.ne_of_lt (Nat.lt_succ_of_lt lt_a)⟩, fun b hb => ?_, q⟩
    have hle : s1.heap.objs.size ≤ b := by
      rcases List.mem_cons.mp hb with rfl | hb
      · exact Nat.le_succ _
      · rw [List.mem_singleton.mp hb]; exact Nat.le_refl _
    exact I1.fpOk hle (I1.hok.fresh hle)
/-! ### over trees -/
def enD (k : Nat) : List D → List D
  | [] => []
  | d :: ds => .pr [.int (k : Nat), d] :: enD (k + 1) ds
theorem enD_len : ∀ (k : Nat) (ds : List D), (enD k ds).length = ds.length
  | _, [] => rfl
  | k, _ :: ds => congrArg (· + 1) (enD_len (k + 1) ds)
theorem enD_get : ∀ {k : Nat} {ds : List D} {i : Nat} {d : D}, ds[i]? = some d → (enD k ds)[i]? = some (.pr [.int ((k + i : Nat) : Nat), d])
  | _, [], _, _, e => by simp at e
  | k, _ :: _, 0, _, e => by cases e; rfl
  | k, _ :: ds, i + 1, d, e => by
    have z := enD_get (k := k + 1) (ds := ds) (i := i) (d := d) (by simpa using e)
    have h : k + 1 + i = k + (i + 1) := by omega
    rw [h] at z
    simpa [enD] using z
section
variable {E : Ev} {F : Hp}
theorem jok_enumL {a : Addr} {xs : List V} {ds : List D} (h : SqL E.K F a xs) (r : Ats E F xs ds) : JOk E (Ite E.K a) F (enD 0 ds) := fun F2 H i s sub => by
  have g : SqL E.K H a xs := sub.seq (s.seq h)
  have l := r.len
  have le := enD_len 0 ds
  refine ⟨fun hi => ⟨⟨xs, xs[i]'(by omega), g, List.getElem?_eq_getElem (by omega)⟩, ?_⟩, fun hi => ⟨xs, g, by omega⟩⟩
  rintro x H' ⟨T, u, rfl, hT, rfl, z⟩
  obtain ⟨d, e1, a1⟩ := r.getV (z xs g)
  have gr : Gr E F2 H (upd F2 T (.tup [.int (i : Nat), u])) (upd H T (.tup [.int (i : Nat), u])) := Gr.newF sub hT
  have e2 := enD_get (k := 0) e1
  rw [Nat.zero_add] at e2
  exact ⟨_, _, e2, gr, .pr (.inl (.inl upd_same)) (.cons (.int _) (.cons ((a1.mv s).mv gr.f) .nil))⟩
theorem jok_enumT {a : Addr} {xs : List V} {ds : List D} (h : SqT E.K F a xs) (r : Ats E F xs ds) : JOk E (IteT E.K a) F (enD 0 ds) := fun F2 H i s sub => by
  have g : SqT E.K H a xs := sub.tupS (s.tupS h)
  have l := r.len
  have le := enD_len 0 ds
  refine ⟨fun hi => ⟨⟨xs, xs[i]'(by omega), g, List.getElem?_eq_getElem (by omega)⟩, ?_⟩, fun hi => ⟨xs, g, by omega⟩⟩
  rintro x H' ⟨T, u, rfl, hT, rfl, z⟩
  obtain ⟨d, e1, a1⟩ := r.getV (z xs g)
  have gr : Gr E F2 H (upd F2 T (.tup [.int (i : Nat), u])) (upd H T (.tup [.int (i : Nat), u])) := Gr.newF sub hT
  have e2 := enD_get (k := 0) e1
  rw [Nat.zero_add] at e2
  exact ⟨_, _, e2, gr, .pr (.inl (.inl upd_same)) (.cons (.int _) (.cons ((a1.mv s).mv gr.f) .nil))⟩
end
section
variable {X : Cx} {E : Ev} {B : Bs} {W : WX} {a : Expr} {ca : CE}
def fEnum (x : D) : Option (List D) := match x with
  | .lst xs => some (enD 0 xs)
  | .tup xs => some (enD 0 xs)
  | _ => none
theorem rI_ex {f : D → Option (List D)} {c : CE} {σ : L2.St} {H : Hp} {R : It → Hp → Prop} (h : rI E B W (i1 f c) σ H R) : (∃ F as G C C1 r C' d ds, Wd E B H F as C ∧ Sr E F as σ G ∧ c G C = some (.v d, C1) ∧ f d = some ds ∧ r = Ri.ok ds ∧ C' = C1 ∧ ∀ F' H' J, Sm F F' → Wd E B H' F' as C' → JOk E J F' ds → R J H') ∨ (∃ F as G C e C1, Wd E B H F as C ∧ Sr E F as σ G ∧ c G C = some (.ex e, C1) ∧ ∀ F' H' cls dx, Sm F F' → Wd E B H' F' as C1 → ErAt E F' H' cls dx e → W cls dx σ H') := by
  obtain ⟨F, as, G, C, r, C', wd, sr, q, po⟩ := h
  unfold i1 at q
  cases q1 : c G C with
  | none => simp only [q1] at q; cases q
  | some p =>
    obtain ⟨x, C1⟩ := p
    simp only [q1] at q
    cases x with
    | c k => cases q
    | n o => cases q
    | ex er => cases q; exact .inr ⟨F, as, G, C, er, _, wd, sr, q1, po⟩
    | v d =>
      simp only at q
      cases q3 : f d with
      | none => rw [q3] at q; cases q
      | some ds => rw [q3] at q; cases q; exact .inl ⟨F, as, G, C, _, _, _, d, ds, wd, sr, q1, q3, rfl, rfl, po⟩
theorem iv_enum {p pos tpos : Pos} {elts : List Expr} {kk : Nat} (hK : X.K = E.K) (hg : Gl X "enumerate") (hm : X.mg "enumerate" = none) (ha : PE X a (rE E B W ca)) (hs : starEach [a] X.env = [(false, eval a X.env)] := by rfl) :
    PI X (.Tuple elts kk tpos) (.Call (.Name "enumerate" p) [a] [] pos) (rI E B W (i1 fEnum ca)) :=
  PI.weak (PI.or (pi_enum hg hm (pa_cons ha pa_nil (hs.trans (by rfl))) hs) (pi_enumT hg hm (pa_cons ha pa_nil (hs.trans (by rfl))) hs)) fun σ H R h => by
    rcases rI_ex h with ⟨F, as, G, C, C1, r, C', d, ds, wd, sr, q1, q3, rfl, rfl, po⟩ | ⟨F, as, G, C, e, C1, wd, sr, q1, po⟩
    · cases d with
      | lst xs =>
        cases q3
        refine .inl ⟨F, as, G, C, .v (.lst xs), _, wd, sr, trivial, q1, fun F' H' s w v av => ?_⟩
        cases av with
        | lst h1 r1 => exact ⟨_, _, rfl, by rw [hK]; exact w.sub.seq (SqL.of h1), by rw [hK]; exact po F' H' _ s w (jok_enumL (SqL.of h1) r1)⟩
      | tup xs =>
        cases q3
        refine .inr ⟨F, as, G, C, .v (.tup xs), _, wd, sr, trivial, q1, fun F' H' s w v av => ?_⟩
        cases av with
        | tup h1 r1 => exact ⟨_, _, rfl, by rw [hK]; exact w.sub.tupS h1, by rw [hK]; exact po F' H' _ s w (jok_enumT h1 r1)⟩
      | _ => cases q3
    · exact .inl ⟨F, as, G, C, .ex e, C1, wd, sr, trivial, q1, fun F' H' s w cls dx ea => po F' H' cls dx s w ea⟩
/-! ### name = {.. for ..} on one line -/
theorem sw_trueD {kx vx : Expr} {gs : List Comprehension} {scope : Scope} {pos py : Pos} {y : Str} {l : Nat} {env : Env} (hk : env.scope.kind = .function) (hy : env.scope.names.lookup y = some .local) (hl : (py.line == pos.line) = true)
    (ha : (scope.names.any fun (n, k) => n == y && (k == .local || k == .cell)) = false) : swapsWith (.DictComp kx vx gs scope pos) (some (.Name y py)) l env = pure true := by
  have ky : env.kindOf y = some .local := hy
  have hb : env.blockKind = .function := by unfold Env.blockKind; rw [hk] <;> rfl
  unfold swapsWith
  simp only [hb, ky, ha, Expr.pos, hl]
  rfl
theorem ps_setDc {S : SD} {i : Nat} {y : Str} {py : Pos} {kx vx tg iter : Expr} {ifs : List Expr} {scope : Scope} {own : List (Str × Nat)} {pos spos : Pos} {wi : TI} {g : TG} {tt : TT} {tk tv : TE} (hc : X.calm = true) (hN : X.N.Nodup) (hy : X.N[i]? = some y) (hyl : X.env.scope.names.lookup y = some .local)
    (hsw : swapsWith (.DictComp kx vx [⟨tg, iter, ifs, 0⟩] scope pos) (some (.Name y py)) spos.line X.env = pure true) (hi : PI X tg iter wi) (ok : BlkOk X.N X.env.scope scope own)
    (hS : ∀ (s : Shared) (H : Hp) (ce : Env) (fp : List Addr), DSet (X.blk s H scope ce fp) S)
    (hg : ∀ (s : Shared) (H : Hp) (C : Addr) (cl : List (Str × Addr)) (fp : List Addr), PG (X.blk s H scope (compEnvC scope cl C X.env) fp) tg g) (ht : ∀ (s : Shared) (H : Hp) (C : Addr) (cl : List (Str × Addr)) (fp : List Addr), PTs (X.blk s H scope (compEnvC scope cl C X.env) fp) ifs tt)
    (hk : ∀ (s : Shared) (H : Hp) (C : Addr) (cl : List (Str × Addr)) (fp : List Addr), PE (X.blk s H scope (compEnvC scope cl C X.env) fp) kx tk)
    (he : ∀ (s : Shared) (H : Hp) (C : Addr) (cl : List (Str × Addr)) (fp : List Addr), PE (X.blk s H scope (compEnvC scope cl C X.env) fp) vx tv) (hs : ∀ x, foldedSetIterable iter X.env x = pure x := by intro _; rfl) :
    PS X (.Assign [.Name y py] (.DictComp kx vx [⟨tg, iter, ifs, 0⟩] scope pos) spos) (tAsg (tDcS S wi g tt tk tv (own.map (·.2))) (gName i)) := by
  refine ⟨fun pins s σ H D I h => ?_⟩
  have h : tDcS S wi g tt tk tv (own.map (·.2)) σ H (fun x H1 => gName i x σ H1 D.nx) := h
  rw [exec_Assign_Name_used _ _ _ _ hsw]
  refine wpAny_bind (wpAny_standAt (wpAny_bind ?_))
  show wpAny _ X.A (do let _ ← comprehension (.DictComp kx vx [⟨tg, iter, ifs, 0⟩] scope pos) scope X.env (firstIterPos [⟨tg, iter, ifs, 0⟩] pos) newDict false (eval iter X.env) (some (assign (.Name y py) X.env))) _ _ s
  refine wpAny_bind (thn (dcS (Qf := fun _ s' => SP X pins D .next s') hc hN I hi ok hS hg ht hk he hs h fun L C s' m H' I' q hn f => ?_) fun _ s' hq => wpAny_pure (wpAny_pure hq))
  show wpAny _ _ (assign (.Name y py) X.env (.ref L)) _ _ _
  refine wpAny_assign_Name (store_ok2 (v := V.ref L) I' hN hy (.inl hyl) rfl (fun s2 I2 ⟨a, sb, ha⟩ => ?_) (.inr hyl))
  obtain ⟨f0, f1, f2, f3, f4, f5⟩ := f
  have haC : C ≠ a := ha.elim (fun z => by rw [z]; exact f1) fun z e => f4 y a z e.symm
  exact ⟨m, hn.sameBut sb haC, fun h3 sb3 => ⟨_, H', I2.turned (t' := s2.toks) (fun b o hb e => (sb3.2 b hb).trans e) f0 f1 f3 f4 f5, q⟩⟩
theorem ps_dcs {i : Nat} {y : Str} {py : Pos} {kx vx tg iter : Expr} {ifs : List Expr} {scope : Scope} {own : List (Str × Nat)} {pos spos : Pos} {ci : CI} {t : CT} {g : TG} {tt ck cv : CE} (hP : X.prog = E.P) (hw' : X.w = E.w) (hK : X.K = E.K) (hu : X.A.units + 10 < cLine) (hc : X.calm = true) (hN : X.N.Nodup) (hy : X.N[i]? = some y) (hyl : X.env.scope.names.lookup y = some .local)
    (hk0 : X.env.scope.kind = .function) (hl : (py.line == pos.line) = true) (hany : (scope.names.any fun (n, k) => n == y && (k == .local || k == .cell)) = false)
    (hi : PI X tg iter (rI E B W ci)) (ok : BlkOk X.N X.env.scope scope own)
    (hg : ∀ (s : Shared) (H : Hp) (C : Addr) (cl : List (Str × Addr)) (fp : List Addr), PG (X.blk s H scope (compEnvC scope cl C X.env) fp) tg g) (tgo : TgOk E g t) (tgw : TgW g (own.map (·.2)))
    (ht : ∀ (s : Shared) (H : Hp) (C : Addr) (cl : List (Str × Addr)) (fp : List Addr), PTs (X.blk s H scope (compEnvC scope cl C X.env) fp) ifs (fun σ H Q => ∃ B', rT E B' nev tt σ H Q))
    (hk : ∀ (s : Shared) (H : Hp) (C : Addr) (cl : List (Str × Addr)) (fp : List Addr), PE (X.blk s H scope (compEnvC scope cl C X.env) fp) kx (fun σ H Q => ∃ B', rE E B' nev ck σ H Q))
    (he : ∀ (s : Shared) (H : Hp) (C : Addr) (cl : List (Str × Addr)) (fp : List Addr), PE (X.blk s H scope (compEnvC scope cl C X.env) fp) vx (fun σ H Q => ∃ B', rE E B' nev cv σ H Q)) (hs : ∀ x, foldedSetIterable iter X.env x = pure x := by intro _; rfl) :
    PS X (.Assign [.Name y py] (.DictComp kx vx [⟨tg, iter, ifs, 0⟩] scope pos) spos) (tAsg (rE E B W (cDc ci t tt ck cv (own.map (·.2)))) (gName i)) :=
  PS.weak (ps_setDc (S := SDt E.P E.w E.K) hc hN hy hyl (sw_trueD hk0 hyl hl hany) hi ok (fun s H ce fp => by
    have z := dset_t (X := X.blk s H scope ce fp) hu
    have e : SDt (X.blk s H scope ce fp).prog (X.blk s H scope ce fp).w (X.blk s H scope ce fp).K = SDt E.P E.w E.K := by
      show SDt X.prog X.w X.K = _
      rw [hP, hw', hK]
    rw [e] at z
    exact z) hg ht hk he hs) fun _ _ _ h => rE_dc tgo tgw (fun B' _ _ _ z => ⟨B', z⟩) (fun B' _ _ _ z => ⟨B', z⟩) (fun B' _ _ _ z => ⟨B', z⟩) h
end
end TL
set_option Elab.async false
set_option linter.all false
set_option maxRecDepth 100000
set_option maxHeartbeats 1000000
namespace K51
open PySem PySem.Spec PyProof.Rows L2 Gd TL
abbrev csL : List Nat := [6]
abbrev hlsL : List (Nat × Hr) := [(2, .lit "book"), (3, .lit "operation"), (0, .lit "other")]
abbrev errsL : List Nat := [1, 2, 3, 4, 5]
def subB (e k : Nat) : Bool := e == k || (e == 1 && k == 0) || (e == 2 && k == 0) || (e == 3 && k == 0)
theorem takes_len {X : Cx} {W : WX} (tk : Takes X W) : Takes X (fun cls d σ' H' => σ'.length = X.N.length → W cls d σ' H') := fun u s' x => tk u s' (by
  obtain ⟨a, B, sI, pins', σ', H', cls, d, e, J', nb, up, sky, na, os, ag, w⟩ := x
  exact ⟨a, B, sI, pins', σ', H', cls, d, e, J', nb, up, sky, na, os, ag, w J'.len⟩)
/-- the def that tries keeps what it gives, wherever it is called -/
def GivesMet (E : Ev) (mg : Str → Option Value) (base : Heap) (gMet : Addr) (cdMet : Value) : Prop := ∀ (X : Cx) (q : Str), X.prog = E.P → X.w = E.w → X.K = E.K → X.mg = mg → X.base = base → X.A.guards = some [] → Room 20 X.A →
  LamX.GivesTo X nm_met "_law_met" (defScope s_met) gMet cdMet (defBody s_met) "_law_action" q (TTmet E hlsL "fine")
theorem gives_met {E : Ev} {mg : Str → Option Value} {base : Heap} {gMet : Addr} {cdMet : Value} (B : Blt mg) (n2 : mg "InvalidBook" = some (.ref (E.ce 2))) (n3 : mg "InvalidOperation" = some (.ref (E.ce 3))) (n0 : mg "ChooserError" = some (.ref (E.ce 0)))
      : GivesMet E mg base gMet cdMet := by
  intro X q hP hw hK hm hB hgd hr f c' s H Q tl act hc h
  refine ⟨_, pss_cons (Xc.ps_try_g (X := (cxOf C8.CX0 X.prog X.w X.K X.mg X.base nm_met "_law_met" (defScope s_met) gMet cdMet X.A X.stack s H C8.E0).nox)
      (tb := fun W D σ H => ∃ Ech : XK, (∀ (cls : Value) (d : Option Addr) (σ' : L2.St) (H' : Hp), σ'.length = nm_met.length → Ech cls d H' → W cls d σ' H') ∧ σ[0]? = some (some (.ref f)) ∧ H c' = some (LamX.CodeO c' q) ∧ tl Ech H (fun _ H' => D.nx σ H'))
      rfl rfl sc_met.nd LamX.takes0 (fun W pn xe tk _ => ?_)
      (.cons (.one ⟨rfl, by decide, .inl (by show X.mg _ = _; rw [hm]; exact n2)⟩) (fun a oe cls d pn hz hf => pss_one (ps_ret pe_str))
      (.cons (.one ⟨rfl, by decide, .inl (by show X.mg _ = _; rw [hm]; exact n3)⟩) (fun a oe cls d pn hz hf => pss_one (ps_ret pe_str))
      (.cons (.one ⟨rfl, by decide, .inl (by show X.mg _ = _; rw [hm]; exact n0)⟩) (fun a oe cls d pn hz hf => pss_one (ps_ret pe_str))
      .nil))))
      (pss_one (ps_ret pe_str)), ?_⟩
  · refine ⟨fun pins s' σ H' D I h' => ?_⟩
    obtain ⟨Ech, hW, h1, h2, h3⟩ := h'
    exact (pss_one (ps_expr (act (fun cls d σ' H' => σ'.length = nm_met.length → W cls d σ' H') pn xe Ech _ _ (takes_len tk) (fun cls d σ' H' e l => hW cls d σ' H' l e)))).run pins s' σ H' D I ⟨h1, h2, h3⟩
  · refine ⟨fun cls dx H' => pickH E hlsL cls dx H' Q, fun cls d σ' H' hl hp => ?_, rfl, hc, h⟩
    have one : ∀ {c : Value} {b : Bool}, PySem.W.exmOne E.K cls c = some b → PySem.W.exmAny X.K cls [c] = some b := fun {c b} h => by
      rw [hK]
      unfold PySem.W.exmAny PySem.W.exmAny
      rw [h]
      cases b <;> rfl
    obtain ⟨b2, e2, y2, m2⟩ := hp
    refine ⟨b2, one e2, (fun hb a na => y2 hb), fun hb => ?_⟩
    obtain ⟨b3, e3, y3, m3⟩ := m2 hb
    refine ⟨b3, one e3, (fun hb a na => y3 hb), fun hb => ?_⟩
    obtain ⟨b0, e0, y0, m0⟩ := m3 hb
    exact ⟨b0, one e0, (fun hb a na => y0 hb), fun hb => m0 hb⟩
end K51
set_option Elab.async false
set_option linter.all false
set_option maxRecDepth 100000
set_option maxHeartbeats 1000000
namespace K51
open PySem PySem.Spec PyProof.Rows L2 Gd TL
section
variable {E : Ev} {mg : Str → Option Value} {base : Heap}
def d_LETTERS : D := (.str "abcdefghijklmnopqrstuvwxyz")
def d_MAX_LETTERS : D := (.int 8)
def m_is_name : List D → Option Rv := runP 2 1 (sRet (cAnd (cCall (fIsA csL) (aCons (cVar 0) (aCons (cC (.ty "str")) aNil))) (cAnd (cChain (fI2 fun i j => .bl (decide (i ≤ j))) (fI2 fun i j => .bl (decide (i ≤ j))) (cC (.int 1)) (cCall fLen (aCons (cVar 0) aNil)) (cC d_MAX_LETTERS)) (cCall fAll (aCons (cFr (cLc (i1 items3 (cVar 0)) (tName 1) ctY (c2 (fIn2 false) (cVar 1) (cC d_LETTERS)) [1])) aNil)))))
theorem ok_is_name {f : Addr} {fd : FuncData} (F : Fun E.K "is_name" "is_name" s_is_name f fd) (CO : ClsOk E) (KT : KitOk E csL) (B : Blt mg) (K_LETTERS : GlD E mg "LETTERS" d_LETTERS) (K_MAX_LETTERS : GlD E mg "MAX_LETTERS" d_MAX_LETTERS) : FnOk E.P E.w E.K mg base (L2.CX E.P E.w) 1 f fd ["value"] (spP E 1 m_is_name) := by
  obtain ⟨v_LETTERS, u_LETTERS, g_LETTERS, r_LETTERS, a_LETTERS⟩ := K_LETTERS
  obtain ⟨v_MAX_LETTERS, u_MAX_LETTERS, g_MAX_LETTERS, r_MAX_LETTERS, a_MAX_LETTERS⟩ := K_MAX_LETTERS
  exact ok_P (E := E) F sc_is_name fun cdv A outer s H F0 Ex hr => (sv_one (sv_ret (ev_and (ev_callB (cd_isa rfl rfl CO KT) (by rfl) B.isinstance_ (by decide +kernel) (av_cons (ev_var (pv 0)) (av_cons (ev_c (pe_bltn (v := .ty "str") rfl B.str_ (by decide +kernel) rfl) fun _ => .ty "str") av_nil))) (ev_and (ev_chain od_le od_le ev_int (ev_callB (cd_len rfl rfl) (by rfl) B.len_ (by decide +kernel) (av_cons (ev_var (pv 0)) av_nil)) (ev_c (pe_glob rfl g_MAX_LETTERS r_MAX_LETTERS) a_MAX_LETTERS)) (ev_one (ev_callB (cd_all rfl rfl) (by rfl) B.all_ (by decide +kernel) (av_cons (ev_fr (ev_lc (own := [("letter", 1)]) rfl sc_is_name.nd (iv_all rfl rfl (ev_var (pv 0))) (blkOk_by (own := [("letter", 1)]) (N := nm_is_name) (sc := defScope s_is_name) (by decide +kernel)) (fun _ _ _ _ _ => (pg_name (i := 1) sc_is_name.nd rfl (.inl rfl))) tg_name (tgw_name (by decide)) (fun _ _ _ _ _ => pts0) (fun _ _ _ _ _ => pes fun B' => (ev_cmp (od_in2 rfl rfl (hU66 hr)) (ev_var (pv 1)) (ev_c (pe_glob rfl g_LETTERS r_LETTERS) a_LETTERS) rfl)))) av_nil)))))))
def d_TOO_LONG : D := (.int 1000000000000000000000000000000000000000000000000000000000000)
def m_is_integer : List D → Option Rv := runP 1 1 (sRet (cAnd (cCall (fIsA csL) (aCons (cVar 0) (aCons (cC (.ty "int")) aNil))) (cAnd (cNot (cCall (fIsA csL) (aCons (cVar 0) (aCons (cC (.ty "bool")) aNil)))) (cChain fLt fLt (c1 fNeg (cC d_TOO_LONG)) (cVar 0) (cC d_TOO_LONG)))))
theorem ok_is_integer {f : Addr} {fd : FuncData} (F : Fun E.K "is_integer" "is_integer" s_is_integer f fd) (CO : ClsOk E) (KT : KitOk E csL) (B : Blt mg) (K_TOO_LONG : GlD E mg "TOO_LONG" d_TOO_LONG) : FnOk E.P E.w E.K mg base (L2.CX E.P E.w) 1 f fd ["value"] (spP E 1 m_is_integer) := by
  obtain ⟨v_TOO_LONG, u_TOO_LONG, g_TOO_LONG, r_TOO_LONG, a_TOO_LONG⟩ := K_TOO_LONG
  exact ok_P (E := E) F sc_is_integer fun cdv A outer s H F0 Ex hr => (sv_one (sv_ret (ev_and (ev_callB (cd_isa rfl rfl CO KT) (by rfl) B.isinstance_ (by decide +kernel) (av_cons (ev_var (pv 0)) (av_cons (ev_c (pe_bltn (v := .ty "int") rfl B.int_ (by decide +kernel) rfl) fun _ => .ty "int") av_nil))) (ev_and (ev_not (ev_callB (cd_isa rfl rfl CO KT) (by rfl) B.isinstance_ (by decide +kernel) (av_cons (ev_var (pv 0)) (av_cons (ev_c (pe_bltn (v := .ty "bool") rfl B.bool_ (by decide +kernel) rfl) fun _ => .ty "bool") av_nil)))) (ev_one (ev_chain (od_lt rfl (hU64 hr)) (od_lt rfl (hU64 hr)) (ev_un un_negD (ev_c (pe_glob rfl g_TOO_LONG r_TOO_LONG) a_TOO_LONG)) (ev_var (pv 0)) (ev_c (pe_glob rfl g_TOO_LONG r_TOO_LONG) a_TOO_LONG)))))))
def m_is_ascending : List D → Option Rv := runP 3 1 (sRet (cCall fAll (aCons (cFr (cLc (i2 fZip (cVar 0) (cSl fSl (cVar 0) (some (cC (.int 1))) none)) (tTupT 2 (tsCons (tName 1) (tsCons (tName 2) tsNil))) ctY (c2 fLt (cVar 1) (cVar 2)) [1, 2])) aNil)))
theorem ok_is_ascending {f : Addr} {fd : FuncData} (F : Fun E.K "is_ascending" "is_ascending" s_is_ascending f fd) (B : Blt mg) : FnOk E.P E.w E.K mg base (L2.CX E.P E.w) 1 f fd ["values"] (spP E 1 m_is_ascending) := by
  exact ok_P (E := E) F sc_is_ascending fun cdv A outer s H F0 Ex hr => (sv_one (sv_ret (ev_callB (cd_all rfl rfl) (by rfl) B.all_ (by decide +kernel) (av_cons (ev_fr (ev_lc (own := [("one", 1), ("other", 2)]) rfl sc_is_ascending.nd (iv_zip rfl (by rfl) B.zip_ (ev_var (pv 0)) (ev_sl rfl (ev_var (pv 0)) (ov_some ev_int) ov_none)) (blkOk_by (own := [("one", 1), ("other", 2)]) (N := nm_is_ascending) (sc := defScope s_is_ascending) (by decide +kernel)) (fun _ _ _ _ _ => (pg_tup rfl (pgs_cons (pg_name (i := 1) sc_is_ascending.nd rfl (.inl rfl)) (pgs_cons (pg_name (i := 2) sc_is_ascending.nd rfl (.inl rfl)) pgs_nil)))) (tg_tup (tgs_cons tg_name (tgs_cons tg_name tgs_nil))) (tgw_tup (tgsw_cons tgm_name (tgsm_cons tgm_name tgsm_nil) (tgw_name (by decide)) (tgsw_cons tgm_name tgsm_nil (tgw_name (by decide)) tgsw_nil))) (fun _ _ _ _ _ => pts0) (fun _ _ _ _ _ => pes fun B' => (ev_cmp (od_lt rfl (hU64 hr)) (ev_var (pv 1)) (ev_var (pv 2)) (nomark _))))) av_nil))))
def m_is_number : List D → Option Rv := runP 1 1 (sRet (cAnd (cFn m_is_integer (aCons (cVar 0) aNil)) (c2 (fI2 fun i j => .bl (decide (j ≤ i))) (cVar 0) (cC (.int 0)))))
theorem ok_is_number {f : Addr} {fd : FuncData} (F : Fun E.K "is_number" "is_number" s_is_number f fd) (C0 : HasT E mg base 1 "is_integer" ["value"] (spP E 1 m_is_integer)) : FnOk E.P E.w E.K mg base (L2.CX E.P E.w) 2 f fd ["value"] (spP E 1 m_is_number) := by
  obtain ⟨f_is_integer, fd_is_integer, G_is_integer, g_is_integer, k_is_integer, b_is_integer⟩ := C0.ex
  exact ok_P (E := E) F sc_is_number fun cdv A outer s H F0 Ex hr => (sv_one (sv_ret (ev_and (ev_fn G_is_integer (takes_of rfl rfl rfl rfl) fm_P (hr.mono (by decide)) (by rfl) g_is_integer k_is_integer b_is_integer (av_cons (ev_var (pv 0)) av_nil)) (ev_one (ev_cmp od_ge (ev_var (pv 0)) ev_int (nomark _))))))
def m_is_below : List D → Option Rv := runP 2 2 (sRet (cAnd (cFn m_is_number (aCons (cVar 0) aNil)) (c2 fLt (cVar 0) (cVar 1))))
theorem ok_is_below {f : Addr} {fd : FuncData} (F : Fun E.K "is_below" "is_below" s_is_below f fd) (C0 : HasT E mg base 2 "is_number" ["value"] (spP E 1 m_is_number)) : FnOk E.P E.w E.K mg base (L2.CX E.P E.w) 3 f fd ["value", "limit"] (spP E 2 m_is_below) := by
  obtain ⟨f_is_number, fd_is_number, G_is_number, g_is_number, k_is_number, b_is_number⟩ := C0.ex
  exact ok_P (E := E) F sc_is_below fun cdv A outer s H F0 Ex hr => (sv_one (sv_ret (ev_and (ev_fn G_is_number (takes_of rfl rfl rfl rfl) fm_P (hr.mono (by decide)) (by rfl) g_is_number k_is_number b_is_number (av_cons (ev_var (pv 0)) av_nil)) (ev_one (ev_cmp (od_lt rfl (hU64 hr)) (ev_var (pv 0)) (ev_var (pv 1)) (nomark _))))))
def m_is_row : List D → Option Rv := runP 4 3 (sRet (cAnd (cCall (fIsA csL) (aCons (cVar 2) (aCons (cC (.ty "tuple")) aNil))) (cAnd (c2 (fEq false) (cCall fLen (aCons (cVar 2) aNil)) (cVar 1)) (cCall fAll (aCons (cFr (cLc (i1 items3 (cVar 2)) (tName 3) ctY (cFn m_is_below (aCons (cVar 3) (aCons (cVar 0) aNil))) [3])) aNil)))))
theorem ok_is_row {f : Addr} {fd : FuncData} (F : Fun E.K "is_row" "is_row" s_is_row f fd) (CO : ClsOk E) (KT : KitOk E csL) (B : Blt mg) (C0 : HasT E mg base 3 "is_below" ["value", "limit"] (spP E 2 m_is_below)) : FnOk E.P E.w E.K mg base (L2.CX E.P E.w) 4 f fd ["size", "places", "value"] (spP E 3 m_is_row) := by
  obtain ⟨f_is_below, fd_is_below, G_is_below, g_is_below, k_is_below, b_is_below⟩ := C0.ex
  exact ok_P (E := E) F sc_is_row fun cdv A outer s H F0 Ex hr => (sv_one (sv_ret (ev_and (ev_callB (cd_isa rfl rfl CO KT) (by rfl) B.isinstance_ (by decide +kernel) (av_cons (ev_var (pv 2)) (av_cons (ev_c (pe_bltn (v := .ty "tuple") rfl B.tuple_ (by decide +kernel) rfl) fun _ => .ty "tuple") av_nil))) (ev_and (ev_cmp (od_eq rfl (hU64 hr)) (ev_callB (cd_len rfl rfl) (by rfl) B.len_ (by decide +kernel) (av_cons (ev_var (pv 2)) av_nil)) (ev_var (pv 1)) (nomark _)) (ev_one (ev_callB (cd_all rfl rfl) (by rfl) B.all_ (by decide +kernel) (av_cons (ev_fr (ev_lc (own := [("part", 3)]) rfl sc_is_row.nd (iv_all rfl rfl (ev_var (pv 2))) (blkOk_by (own := [("part", 3)]) (N := nm_is_row) (sc := defScope s_is_row) (by decide +kernel)) (fun _ _ _ _ _ => (pg_name (i := 3) sc_is_row.nd rfl (.inl rfl))) tg_name (tgw_name (by decide)) (fun _ _ _ _ _ => pts0) (fun _ _ _ _ _ => pes fun B' => (ev_fn G_is_below takes0 fm_P (hr.mono (by decide)) (by rfl) g_is_below k_is_below b_is_below (av_cons (ev_var (pv 3)) (av_cons (ev_var (pv 0)) av_nil)))))) av_nil)))))))
def m_is_rows : List D → Option Rv := runP 4 3 (sRet (cAnd (cCall (fIsA csL) (aCons (cVar 2) (aCons (cC (.ty "tuple")) aNil))) (cAnd (cCall fAll (aCons (cFr (cLc (i1 items3 (cVar 2)) (tName 3) ctY (cFn m_is_row (aCons (cVar 0) (aCons (cVar 1) (aCons (cVar 3) aNil)))) [3])) aNil)) (cFn m_is_ascending (aCons (cVar 2) aNil)))))
theorem ok_is_rows {f : Addr} {fd : FuncData} (F : Fun E.K "is_rows" "is_rows" s_is_rows f fd) (CO : ClsOk E) (KT : KitOk E csL) (B : Blt mg) (C0 : HasT E mg base 1 "is_ascending" ["values"] (spP E 1 m_is_ascending)) (C1 : HasT E mg base 4 "is_row" ["size", "places", "value"] (spP E 3 m_is_row)) : FnOk E.P E.w E.K mg base (L2.CX E.P E.w) 5 f fd ["size", "places", "value"] (spP E 3 m_is_rows) := by
  obtain ⟨f_is_ascending, fd_is_ascending, G_is_ascending, g_is_ascending, k_is_ascending, b_is_ascending⟩ := C0.ex
  obtain ⟨f_is_row, fd_is_row, G_is_row, g_is_row, k_is_row, b_is_row⟩ := C1.ex
  exact ok_P (E := E) F sc_is_rows fun cdv A outer s H F0 Ex hr => (sv_one (sv_ret (ev_and (ev_callB (cd_isa rfl rfl CO KT) (by rfl) B.isinstance_ (by decide +kernel) (av_cons (ev_var (pv 2)) (av_cons (ev_c (pe_bltn (v := .ty "tuple") rfl B.tuple_ (by decide +kernel) rfl) fun _ => .ty "tuple") av_nil))) (ev_and (ev_callB (cd_all rfl rfl) (by rfl) B.all_ (by decide +kernel) (av_cons (ev_fr (ev_lc (own := [("row", 3)]) rfl sc_is_rows.nd (iv_all rfl rfl (ev_var (pv 2))) (blkOk_by (own := [("row", 3)]) (N := nm_is_rows) (sc := defScope s_is_rows) (by decide +kernel)) (fun _ _ _ _ _ => (pg_name (i := 3) sc_is_rows.nd rfl (.inl rfl))) tg_name (tgw_name (by decide)) (fun _ _ _ _ _ => pts0) (fun _ _ _ _ _ => pes fun B' => (ev_fn G_is_row takes0 fm_P (hr.mono (by decide)) (by rfl) g_is_row k_is_row b_is_row (av_cons (ev_var (pv 0)) (av_cons (ev_var (pv 1)) (av_cons (ev_var (pv 3)) av_nil))))))) av_nil)) (ev_one (ev_fn G_is_ascending (takes_of rfl rfl rfl rfl) fm_P (hr.mono (by decide)) (by rfl) g_is_ascending k_is_ascending b_is_ascending (av_cons (ev_var (pv 2)) av_nil)))))))
def d_MAX_PLACES : D := (.int 3)
def m_is_tie : List D → Option Rv := runP 2 2 (sRet (cAnd (cCall (fIsA csL) (aCons (cVar 1) (aCons (cC (.ty "tuple")) aNil))) (cAnd (c2 (fEq false) (cCall fLen (aCons (cVar 1) aNil)) (cC (.int 2))) (cAnd (cFn m_is_integer (aCons (c2 fSub (cVar 1) (cC (.int 0))) aNil)) (cAnd (cChain (fI2 fun i j => .bl (decide (i ≤ j))) (fI2 fun i j => .bl (decide (i ≤ j))) (cC (.int 1)) (c2 fSub (cVar 1) (cC (.int 0))) (cC d_MAX_PLACES)) (cFn m_is_rows (aCons (cVar 0) (aCons (c2 fSub (cVar 1) (cC (.int 0))) (aCons (c2 fSub (cVar 1) (cC (.int 1))) aNil)))))))))
theorem ok_is_tie {f : Addr} {fd : FuncData} (F : Fun E.K "is_tie" "is_tie" s_is_tie f fd) (CO : ClsOk E) (KT : KitOk E csL) (B : Blt mg) (C0 : HasT E mg base 5 "is_rows" ["size", "places", "value"] (spP E 3 m_is_rows)) (C1 : HasT E mg base 1 "is_integer" ["value"] (spP E 1 m_is_integer)) (K_MAX_PLACES : GlD E mg "MAX_PLACES" d_MAX_PLACES) : FnOk E.P E.w E.K mg base (L2.CX E.P E.w) 6 f fd ["size", "value"] (spP E 2 m_is_tie) := by
  obtain ⟨f_is_rows, fd_is_rows, G_is_rows, g_is_rows, k_is_rows, b_is_rows⟩ := C0.ex
  obtain ⟨f_is_integer, fd_is_integer, G_is_integer, g_is_integer, k_is_integer, b_is_integer⟩ := C1.ex
  obtain ⟨v_MAX_PLACES, u_MAX_PLACES, g_MAX_PLACES, r_MAX_PLACES, a_MAX_PLACES⟩ := K_MAX_PLACES
  exact ok_P (E := E) F sc_is_tie fun cdv A outer s H F0 Ex hr => (sv_one (sv_ret (ev_and (ev_callB (cd_isa rfl rfl CO KT) (by rfl) B.isinstance_ (by decide +kernel) (av_cons (ev_var (pv 1)) (av_cons (ev_c (pe_bltn (v := .ty "tuple") rfl B.tuple_ (by decide +kernel) rfl) fun _ => .ty "tuple") av_nil))) (ev_and (ev_cmp (od_eq rfl (hU64 hr)) (ev_callB (cd_len rfl rfl) (by rfl) B.len_ (by decide +kernel) (av_cons (ev_var (pv 1)) av_nil)) ev_int (nomark _)) (ev_and (ev_fn G_is_integer (takes_of rfl rfl rfl rfl) fm_P (hr.mono (by decide)) (by rfl) g_is_integer k_is_integer b_is_integer (av_cons (ev_sub rfl rfl (hU hr) (ev_var (pv 1)) ev_int (fun _ _ => rfl)) av_nil)) (ev_and (ev_chain od_le od_le ev_int (ev_sub rfl rfl (hU hr) (ev_var (pv 1)) ev_int (fun _ _ => rfl)) (ev_c (pe_glob rfl g_MAX_PLACES r_MAX_PLACES) a_MAX_PLACES)) (ev_one (ev_fn G_is_rows (takes_of rfl rfl rfl rfl) fm_P (hr.mono (by decide)) (by rfl) g_is_rows k_is_rows b_is_rows (av_cons (ev_var (pv 0)) (av_cons (ev_sub rfl rfl (hU hr) (ev_var (pv 1)) ev_int (fun _ _ => rfl)) (av_cons (ev_sub rfl rfl (hU hr) (ev_var (pv 1)) ev_int (fun _ _ => rfl)) av_nil)))))))))))
def d_MAX_TIES : D := (.int 8)
def m_is_ties : List D → Option Rv := runP 4 2 (sRet (cAnd (cCall (fIsA csL) (aCons (cVar 1) (aCons (cC (.ty "dict")) aNil))) (cAnd (c2 (fI2 fun i j => .bl (decide (i ≤ j))) (cCall fLen (aCons (cVar 1) aNil)) (cC d_MAX_TIES)) (cCall fAll (aCons (cFr (cLc (i1 (dicA itemsD) (cVar 1)) (tTupT 2 (tsCons (tName 2) (tsCons (tName 3) tsNil))) ctY (cAnd (cFn m_is_name (aCons (cVar 2) aNil)) (cFn m_is_tie (aCons (cVar 0) (aCons (cVar 3) aNil)))) [2, 3])) aNil)))))
theorem ok_is_ties {f : Addr} {fd : FuncData} (F : Fun E.K "is_ties" "is_ties" s_is_ties f fd) (CO : ClsOk E) (KT : KitOk E csL) (B : Blt mg) (C0 : HasT E mg base 6 "is_tie" ["size", "value"] (spP E 2 m_is_tie)) (C1 : HasT E mg base 1 "is_name" ["value"] (spP E 1 m_is_name)) (K_MAX_TIES : GlD E mg "MAX_TIES" d_MAX_TIES) : FnOk E.P E.w E.K mg base (L2.CX E.P E.w) 7 f fd ["size", "value"] (spP E 2 m_is_ties) := by
  obtain ⟨f_is_tie, fd_is_tie, G_is_tie, g_is_tie, k_is_tie, b_is_tie⟩ := C0.ex
  obtain ⟨f_is_name, fd_is_name, G_is_name, g_is_name, k_is_name, b_is_name⟩ := C1.ex
  obtain ⟨v_MAX_TIES, u_MAX_TIES, g_MAX_TIES, r_MAX_TIES, a_MAX_TIES⟩ := K_MAX_TIES
  exact ok_P (E := E) F sc_is_ties fun cdv A outer s H F0 Ex hr => (sv_one (sv_ret (ev_and (ev_callB (cd_isa rfl rfl CO KT) (by rfl) B.isinstance_ (by decide +kernel) (av_cons (ev_var (pv 1)) (av_cons (ev_c (pe_bltn (v := .ty "dict") rfl B.dict_ (by decide +kernel) rfl) fun _ => .ty "dict") av_nil))) (ev_and (ev_cmp od_le (ev_callB (cd_len rfl rfl) (by rfl) B.len_ (by decide +kernel) (av_cons (ev_var (pv 1)) av_nil)) (ev_c (pe_glob rfl g_MAX_TIES r_MAX_TIES) a_MAX_TIES) (nomark _)) (ev_one (ev_callB (cd_all rfl rfl) (by rfl) B.all_ (by decide +kernel) (av_cons (ev_fr (ev_lc (own := [("name", 2), ("tie", 3)]) rfl sc_is_ties.nd (iv_items2 rfl (ev_var (pv 1))) (blkOk_by (own := [("name", 2), ("tie", 3)]) (N := nm_is_ties) (sc := defScope s_is_ties) (by decide +kernel)) (fun _ _ _ _ _ => (pg_tup rfl (pgs_cons (pg_name (i := 2) sc_is_ties.nd rfl (.inl rfl)) (pgs_cons (pg_name (i := 3) sc_is_ties.nd rfl (.inl rfl)) pgs_nil)))) (tg_tup (tgs_cons tg_name (tgs_cons tg_name tgs_nil))) (tgw_tup (tgsw_cons tgm_name (tgsm_cons tgm_name tgsm_nil) (tgw_name (by decide)) (tgsw_cons tgm_name tgsm_nil (tgw_name (by decide)) tgsw_nil))) (fun _ _ _ _ _ => pts0) (fun _ _ _ _ _ => pes fun B' => (ev_and (ev_fn G_is_name takes0 fm_P (hr.mono (by decide)) (by rfl) g_is_name k_is_name b_is_name (av_cons (ev_var (pv 2)) av_nil)) (ev_one (ev_fn G_is_tie takes0 fm_P (hr.mono (by decide)) (by rfl) g_is_tie k_is_tie b_is_tie (av_cons (ev_var (pv 0)) (av_cons (ev_var (pv 3)) av_nil)))))))) av_nil)))))))
def d_VALUES_IN : D := (.tup [(.tup []), (.tup [(.int 0)]), (.tup [(.int 1)]), (.tup [(.int 0), (.int 1)]), (.tup [(.int 2)]), (.tup [(.int 0), (.int 2)]), (.tup [(.int 1), (.int 2)]), (.tup [(.int 0), (.int 1), (.int 2)]), (.tup [(.int 3)]), (.tup [(.int 0), (.int 3)]), (.tup [(.int 1), (.int 3)]), (.tup [(.int 0), (.int 1), (.int 3)]), (.tup [(.int 2), (.int 3)]), (.tup [(.int 0), (.int 2), (.int 3)]), (.tup [(.int 1), (.int 2), (.int 3)]), (.tup [(.int 0), (.int 1), (.int 2), (.int 3)])])
def d_MAX_VALUES : D := (.int 4)
def tb__names : List AE := [(6, none)]
def m_Book_init : List D → Option Ri2 := runI 6 4 3 (sSeq (sIf (cOr (cNot (cFn m_is_integer (aCons (cVar 1) aNil))) (cNot (cChain (fI2 fun i j => .bl (decide (i ≤ j))) (fI2 fun i j => .bl (decide (i ≤ j))) (cC (.int 1)) (cVar 1) (cC d_MAX_VALUES)))) (sRaiseI 4 "value" (cVar 1)) sNil)
  (sSeq (sIf (cNot (cFn m_is_ties (aCons (cVar 1) (aCons (cVar 2) aNil)))) (sRaise1 2 (cC (.str "the ties are no dict from names to pairs of a number of places and a set of rows"))) sNil)
  (sSeq (sFldM csL "_size" (cVar 0) (cVar 1))
  (sSeq (sFldM csL "_names" (cVar 0) (cCall fTup (aCons (cFr (cCall fSort2 (aCons (cVar 2) aNil))) aNil)))
  (sSeq (sFldM csL "_ties" (cVar 0) (cFr (cDc (i1 items3 (cAt tb__names "_names" (cVar 0))) (tName 3) ctY (cVar 3) (c2 fSub (cVar 2) (cVar 3)) [3])))
  (sFldM csL "_sets" (cVar 0) (cCall fTup (aCons (cFr (cCall fSort2 (aCons (cSl fSl (cC d_VALUES_IN) (some (cC (.int 1))) (some (c2 (fI2c (fun i j => decide (0 ≤ j ∧ j ≤ 1000000 ∧ i.natAbs < 2 ^ 64)) fun i j => .int (i * 2 ^ j.toNat)) (cC (.int 1)) (cVar 1)))) aNil))) aNil))))))))
theorem ok_Book_init {f : Addr} {fd : FuncData} (F : Fun E.K "__init__" "Book.__init__" s_Book_init f fd) (B : Blt mg) (C0 : HasT E mg base 7 "is_ties" ["size", "value"] (spP E 2 m_is_ties)) (C1 : HasT E mg base 1 "is_integer" ["value"] (spP E 1 m_is_integer)) (K_VALUES_IN : GlD E mg "VALUES_IN" d_VALUES_IN) (K_MAX_VALUES : GlD E mg "MAX_VALUES" d_MAX_VALUES) (F__sets : FldOk E csL "_sets") (A__names : AtOk E.P E.w E.K mg base E 0 tb__names "_names") (F__ties : FldOk E csL "_ties") (F__names : FldOk E csL "_names") (F__size : FldOk E csL "_size") (R_InvalidBook : Er1 E.K mg E "InvalidBook" 2) (R_InvalidNumber : ErI E.P E.w E.K mg base E 1 "InvalidNumber" 4 "value") : FnOk E.P E.w E.K mg base (L2.CX E.P E.w) 8 f fd ["self", "size", "ties"] (spI E 6 3 m_Book_init) := by
  obtain ⟨f_is_ties, fd_is_ties, G_is_ties, g_is_ties, k_is_ties, b_is_ties⟩ := C0.ex
  obtain ⟨f_is_integer, fd_is_integer, G_is_integer, g_is_integer, k_is_integer, b_is_integer⟩ := C1.ex
  obtain ⟨v_VALUES_IN, u_VALUES_IN, g_VALUES_IN, r_VALUES_IN, a_VALUES_IN⟩ := K_VALUES_IN
  obtain ⟨v_MAX_VALUES, u_MAX_VALUES, g_MAX_VALUES, r_MAX_VALUES, a_MAX_VALUES⟩ := K_MAX_VALUES
  exact ok_I (E := E) (c := 6) F sc_Book_init fun cdv A outer s H F0 o Ex hr => (sv_cons (sv_if (PW.pt (wv_or (tv_not (tv_val (ev_fn G_is_integer (takes_of rfl rfl rfl rfl) fm_P (hr.mono (by decide)) (by rfl) g_is_integer k_is_integer b_is_integer (av_cons (ev_var (pv 1)) av_nil)))) (wv_one_or (tv_not (tv_chain od_le od_le ev_int (ev_var (pv 1)) (ev_c (pe_glob rfl g_MAX_VALUES r_MAX_VALUES) a_MAX_VALUES)))))) (sv_one (sv_rsI R_InvalidNumber rfl (takes_of rfl rfl rfl rfl) (hr.mono (by decide)) (by rfl) (ev_var (pv 1)))) sv_nil)
  (sv_cons (sv_if (tv_not (tv_val (ev_fn G_is_ties (takes_of rfl rfl rfl rfl) fm_P (hr.mono (by decide)) (by rfl) g_is_ties k_is_ties b_is_ties (av_cons (ev_var (pv 1)) (av_cons (ev_var (pv 2)) av_nil))))) (sv_one (sv_rs1 R_InvalidBook rfl (takes_of rfl rfl rfl rfl) (by rfl) ev_str)) sv_nil)
  (sv_cons (sv_fld (cs := csL) rfl F__size (ev_var (pv 0)) (ev_var (pv 1)))
  (sv_cons (sv_fld (cs := csL) rfl F__names (ev_var (pv 0)) (ev_callTy (cd_tup rfl) (by rfl) B.tuple_ (by decide +kernel) (av_cons (ev_fr (ev_callB (cd_sort2 rfl (hU100 hr) rfl) (by rfl) B.sorted_ (by decide +kernel) (av_cons (ev_var (pv 2)) av_nil))) av_nil)))
  (sv_cons (sv_fld (cs := csL) rfl F__ties (ev_var (pv 0)) (ev_fr (ev_dc (own := [("name", 3)]) rfl rfl rfl (hU hr) rfl sc_Book_init.nd (iv_all rfl rfl (ev_at A__names (hr.mono (by decide)) (ev_var (pv 0)))) (blkOk_by (own := [("name", 3)]) (N := nm_Book_init) (sc := defScope s_Book_init) (by decide +kernel)) (fun _ _ _ _ _ => (pg_name (i := 3) sc_Book_init.nd rfl (.inl rfl))) tg_name (tgw_name (by decide)) (fun _ _ _ _ _ => pts0) (fun _ _ _ _ _ => pes fun B' => (ev_var (pv 3))) (fun _ _ _ _ _ => pes fun B' => (ev_sub rfl rfl (hU hr) (ev_var (pv 2)) (ev_var (pv 3)) (fun _ _ => rfl))))))
  (sv_one (sv_fld (cs := csL) rfl F__sets (ev_var (pv 0)) (ev_callTy (cd_tup rfl) (by rfl) B.tuple_ (by decide +kernel) (av_cons (ev_fr (ev_callB (cd_sort2 rfl (hU100 hr) rfl) (by rfl) B.sorted_ (by decide +kernel) (av_cons (ev_sl rfl (ev_c (pe_glob rfl g_VALUES_IN r_VALUES_IN) a_VALUES_IN) (ov_some ev_int) (ov_some (ev_op od_shl ev_int (ev_var (pv 1))))) av_nil))) av_nil)))))))))
def m_sack : List D → Option Rn := runN 5 2 (nSeq (sSet 2 (cIf (c2 fLt (cVar 1) (cCall fLen (aCons (cVar 0) aNil))) (c2 fSub (cVar 0) (cVar 1)) (c2 fAdd (c2 fMul (cC (.int 67)) (cVar 1)) (cC (.int 37)))))
  (nSeq (sSet 3 (c2 (fI2c (fun _ j => decide (0 < j)) fun i j => .int (i % j)) (cCall fInt (aCons (cCall fAbs (aCons (cVar 2) aNil)) aNil)) (c2 (fI2c powOk fun i j => .int (i ^ j.toNat)) (c2 (fI2c powOk fun i j => .int (i ^ j.toNat)) (cC (.int 10)) (cC (.int 47))) (cC (.int 13)))))
  (nSeq (sSet 4 (c2 fAdd (c2 fAdd (c2 fAdd (c2 fMul (c2 (fI2c (fun _ j => decide (0 < j)) fun i j => .int (i % j)) (cCall fInt (aCons (cVar 3) aNil)) (cC (.int 2147483237))) (cC (.int 96293))) (c2 fMul (cC (.int 8123)) (cVar 1))) (c2 fMul (cC (.int 47)) (cCall fInt (aCons (c2 fLt (cVar 2) (cC (.int 0))) aNil)))) (cC (.int 73))))
  (nRet (cLst (aCons (cCall fMax (aCons (cC (.int 0)) (aCons (c2 (fI2 fun i j => .int (i - j)) (cVar 3) (c2 (fI2c powOk fun i j => .int (i ^ j.toNat)) (cC (.int 10)) (cC (.int 18)))) aNil))) (aCons (c2 (fI2c (fun _ j => decide (0 < j)) fun i j => .int (i % j)) (cCall fInt (aCons (cVar 4) aNil)) (cC (.int 2305843009213693907))) (aCons (cC (.int 0)) aNil))))))))
theorem ok_sack {f : Addr} {fd : FuncData} (F : Fun E.K "_law_sack" "_law_sack" s_sack f fd) (B : Blt mg) : FnOk E.P E.w E.K mg base (L2.CX E.P E.w) 1 f fd ["_law_script", "_law_at"] (spN E 2 m_sack) := by
  exact ok_N (E := E) F sc_sack fun cdv A outer s H F0 Ex hr => (n_cons (sv_set (ps_set (i := 2) sc_sack.nd rfl (.inl rfl) (ev_if (tv_cmp (od_lt rfl (hU64 hr)) (ev_var (pv 1)) (ev_callB (cd_len rfl rfl) (by rfl) B.len_ (by decide +kernel) (av_cons (ev_var (pv 0)) av_nil)) (nomark _)) (ev_sub rfl rfl (hU hr) (ev_var (pv 0)) (ev_var (pv 1)) (fun _ _ => rfl)) (ev_op (od_add rfl) (ev_op od_mul ev_int (ev_var (pv 1))) ev_int))))
  (n_cons (sv_set (ps_set (i := 3) sc_sack.nd rfl (.inl rfl) (ev_op od_mod (ev_callTy cd_int (by rfl) B.int_ (by decide +kernel) (av_cons (ev_callB cd_abs (by rfl) B.abs_ (by decide +kernel) (av_cons (ev_var (pv 2)) av_nil)) av_nil)) (ev_op od_pow (ev_op od_pow ev_int ev_int) ev_int))))
  (n_cons (sv_set (ps_set (i := 4) sc_sack.nd rfl (.inl rfl) (ev_op (od_add rfl) (ev_op (od_add rfl) (ev_op (od_add rfl) (ev_op od_mul (ev_op od_mod (ev_callTy cd_int (by rfl) B.int_ (by decide +kernel) (av_cons (ev_var (pv 3)) av_nil)) ev_int) ev_int) (ev_op od_mul ev_int (ev_var (pv 1)))) (ev_op od_mul ev_int (ev_callTy cd_int (by rfl) B.int_ (by decide +kernel) (av_cons (ev_cmp (od_lt rfl (hU64 hr)) (ev_var (pv 2)) ev_int (nomark _)) av_nil)))) ev_int)))
  (n_ret (ev_lst (av_cons (ev_callB (cd_max rfl) (by rfl) B.max_ (by decide +kernel) (av_cons ev_int (av_cons (ev_op od_sub (ev_var (pv 3)) (ev_op od_pow ev_int ev_int)) av_nil))) (av_cons (ev_op od_mod (ev_callTy cd_int (by rfl) B.int_ (by decide +kernel) (av_cons (ev_var (pv 4)) av_nil)) ev_int) (av_cons ev_int av_nil))))))))
def tb__size : List AE := [(6, none)]
def m_Book_size : List D → Option Rv := runP 1 1 (sRet (cAt tb__size "_size" (cVar 0)))
theorem ok_Book_size {f : Addr} {fd : FuncData} (F : Fun E.K "size" "Book.size" s_Book_size f fd) (A__size : AtOk E.P E.w E.K mg base E 0 tb__size "_size") : FnOk E.P E.w E.K mg base (L2.CX E.P E.w) 2 f fd ["self"] (spP E 1 m_Book_size) := by
  exact ok_P (E := E) F sc_Book_size fun cdv A outer s H F0 Ex hr => (sv_one (sv_ret (ev_at A__size (hr.mono (by decide)) (ev_var (pv 0)))))
def m_check_book : List D → Option Rv := runP 1 1 (sIf (cNot (cCall (fIsA csL) (aCons (cVar 0) (aCons (cC (.cls 6)) aNil)))) (sRaise1 2 (cC (.str "there should be a book"))) sNil)
theorem ok_check_book {f : Addr} {fd : FuncData} (F : Fun E.K "check_book" "check_book" s_check_book f fd) (CO : ClsOk E) (KT : KitOk E csL) (B : Blt mg) (gc_Book : mg "Book" = some (.ref (E.cm 6))) (R_InvalidBook : Er1 E.K mg E "InvalidBook" 2) : FnOk E.P E.w E.K mg base (L2.CX E.P E.w) 1 f fd ["book"] (spP E 1 m_check_book) := by
  exact ok_P (E := E) F sc_check_book fun cdv A outer s H F0 Ex hr => (sv_one (sv_if (tv_not (tv_val (ev_callB (cd_isa rfl rfl CO KT) (by rfl) B.isinstance_ (by decide +kernel) (av_cons (ev_var (pv 0)) (av_cons (ev_c (pe_glob (v := .ref (E.cm 6)) rfl gc_Book rfl) fun _ => .cls 6) av_nil))))) (sv_one (sv_rs1 R_InvalidBook rfl (takes_of rfl rfl rfl rfl) (by rfl) ev_str)) sv_nil))
def m_Book_names : List D → Option Rv := runP 1 1 (sRet (cAt tb__names "_names" (cVar 0)))
theorem ok_Book_names {f : Addr} {fd : FuncData} (F : Fun E.K "names" "Book.names" s_Book_names f fd) (A__names : AtOk E.P E.w E.K mg base E 0 tb__names "_names") : FnOk E.P E.w E.K mg base (L2.CX E.P E.w) 2 f fd ["self"] (spP E 1 m_Book_names) := by
  exact ok_P (E := E) F sc_Book_names fun cdv A outer s H F0 Ex hr => (sv_one (sv_ret (ev_at A__names (hr.mono (by decide)) (ev_var (pv 0)))))
def tb__ties : List AE := [(6, none)]
def m_Book_contains : List D → Option Rv := runP 2 2 (sRet (cAnd (cCall (fIsA csL) (aCons (cVar 1) (aCons (cC (.ty "str")) aNil))) (c2 (fIn2 false) (cVar 1) (cAt tb__ties "_ties" (cVar 0)))))
theorem ok_Book_contains {f : Addr} {fd : FuncData} (F : Fun E.K "__contains__" "Book.__contains__" s_Book_contains f fd) (CO : ClsOk E) (KT : KitOk E csL) (B : Blt mg) (A__ties : AtOk E.P E.w E.K mg base E 0 tb__ties "_ties") : FnOk E.P E.w E.K mg base (L2.CX E.P E.w) 2 f fd ["self", "value"] (spP E 2 m_Book_contains) := by
  exact ok_P (E := E) F sc_Book_contains fun cdv A outer s H F0 Ex hr => (sv_one (sv_ret (ev_and (ev_callB (cd_isa rfl rfl CO KT) (by rfl) B.isinstance_ (by decide +kernel) (av_cons (ev_var (pv 1)) (av_cons (ev_c (pe_bltn (v := .ty "str") rfl B.str_ (by decide +kernel) rfl) fun _ => .ty "str") av_nil))) (ev_one (ev_cmp (od_in2 rfl rfl (hU66 hr)) (ev_var (pv 1)) (ev_at A__ties (hr.mono (by decide)) (ev_var (pv 0))) rfl)))))
def tb_contains : MT := [(6, m_Book_contains)]
def m_Book_places : List D → Option Rv := runP 2 2 (sSeq (sIf (c2v (fInO true tb_contains) (cVar 1) (cVar 0)) (sRaiseI 5 "name" (cVar 1)) sNil)
  (sRet (c2 fSub (c2 fSub (cAt tb__ties "_ties" (cVar 0)) (cVar 1)) (cC (.int 0)))))
theorem ok_Book_places {f : Addr} {fd : FuncData} (F : Fun E.K "places" "Book.places" s_Book_places f fd) (A__ties : AtOk E.P E.w E.K mg base E 0 tb__ties "_ties") (D_contains : DnOk E.P E.w E.K mg base E 2 2 tb_contains "__contains__") (R_UnknownName : ErI E.P E.w E.K mg base E 1 "UnknownName" 5 "name") : FnOk E.P E.w E.K mg base (L2.CX E.P E.w) 3 f fd ["self", "name"] (spP E 2 m_Book_places) := by
  exact ok_P (E := E) F sc_Book_places fun cdv A outer s H F0 Ex hr => (sv_cons (sv_if (tv_cmpV (od_ninO D_contains (hr.mono (by decide))) (ev_var (pv 1)) (ev_var (pv 0)) rfl) (sv_one (sv_rsI R_UnknownName rfl (takes_of rfl rfl rfl rfl) (hr.mono (by decide)) (by rfl) (ev_var (pv 1)))) sv_nil)
  (sv_one (sv_ret (ev_sub rfl rfl (hU hr) (ev_sub rfl rfl (hU hr) (ev_at A__ties (hr.mono (by decide)) (ev_var (pv 0))) (ev_var (pv 1)) (fun _ _ => rfl)) ev_int (fun _ _ => rfl)))))
def tb_names : List AE := [(6, some m_Book_names)]
def tm_places : MT := [(6, m_Book_places)]
def m_are_alike : List D → Option Rv := runP 3 2 (sRet (cAnd (c2 (fEq false) (cAt tb_names "names" (cVar 0)) (cAt tb_names "names" (cVar 1))) (cCall fAll (aCons (cFr (cLc (i1 items3 (cAt tb_names "names" (cVar 0))) (tName 2) ctY (c2 (fEq false) (cMth tm_places "places" (cVar 0) (aCons (cVar 2) aNil)) (cMth tm_places "places" (cVar 1) (aCons (cVar 2) aNil))) [2])) aNil))))
theorem ok_are_alike {f : Addr} {fd : FuncData} (F : Fun E.K "are_alike" "are_alike" s_are_alike f fd) (B : Blt mg) (A_names : AtOk E.P E.w E.K mg base E 2 tb_names "names") (M_places : MtOk E.P E.w E.K mg base E 3 2 tm_places "places") : FnOk E.P E.w E.K mg base (L2.CX E.P E.w) 4 f fd ["one", "other"] (spP E 2 m_are_alike) := by
  exact ok_P (E := E) F sc_are_alike fun cdv A outer s H F0 Ex hr => (sv_one (sv_ret (ev_and (ev_cmp (od_eq rfl (hU64 hr)) (ev_at A_names (hr.mono (by decide)) (ev_var (pv 0))) (ev_at A_names (hr.mono (by decide)) (ev_var (pv 1))) (nomark _)) (ev_one (ev_callB (cd_all rfl rfl) (by rfl) B.all_ (by decide +kernel) (av_cons (ev_fr (ev_lc (own := [("name", 2)]) rfl sc_are_alike.nd (iv_all rfl rfl (ev_at A_names (hr.mono (by decide)) (ev_var (pv 0)))) (blkOk_by (own := [("name", 2)]) (N := nm_are_alike) (sc := defScope s_are_alike) (by decide +kernel)) (fun _ _ _ _ _ => (pg_name (i := 2) sc_are_alike.nd rfl (.inl rfl))) tg_name (tgw_name (by decide)) (fun _ _ _ _ _ => pts0) (fun _ _ _ _ _ => pes fun B' => (ev_cmp (od_eq rfl (hU64 hr)) (ev_mth M_places takes0 (hr.mono (by decide)) (ev_var (pv 0)) (av_cons (ev_var (pv 2)) av_nil)) (ev_mth M_places takes0 (hr.mono (by decide)) (ev_var (pv 1)) (av_cons (ev_var (pv 2)) av_nil)) (nomark _))))) av_nil))))))
def m_check_alike : List D → Option Rv := runP 2 2 (sSeq (sExpr (cFn m_check_book (aCons (cVar 0) aNil)))
  (sSeq (sExpr (cFn m_check_book (aCons (cVar 1) aNil)))
  (sIf (cNot (cFn m_are_alike (aCons (cVar 0) (aCons (cVar 1) aNil)))) (sRaise1 3 (cC (.str "the books are not alike in form"))) sNil)))
theorem ok_check_alike {f : Addr} {fd : FuncData} (F : Fun E.K "check_alike" "check_alike" s_check_alike f fd) (C0 : HasT E mg base 4 "are_alike" ["one", "other"] (spP E 2 m_are_alike)) (C1 : HasT E mg base 1 "check_book" ["book"] (spP E 1 m_check_book)) (R_InvalidOperation : Er1 E.K mg E "InvalidOperation" 3) : FnOk E.P E.w E.K mg base (L2.CX E.P E.w) 5 f fd ["one", "other"] (spP E 2 m_check_alike) := by
  obtain ⟨f_are_alike, fd_are_alike, G_are_alike, g_are_alike, k_are_alike, b_are_alike⟩ := C0.ex
  obtain ⟨f_check_book, fd_check_book, G_check_book, g_check_book, k_check_book, b_check_book⟩ := C1.ex
  exact ok_P (E := E) F sc_check_alike fun cdv A outer s H F0 Ex hr => (sv_cons (sv_expr (ev_fn G_check_book (takes_of rfl rfl rfl rfl) fm_P (hr.mono (by decide)) (by rfl) g_check_book k_check_book b_check_book (av_cons (ev_var (pv 0)) av_nil)))
  (sv_cons (sv_expr (ev_fn G_check_book (takes_of rfl rfl rfl rfl) fm_P (hr.mono (by decide)) (by rfl) g_check_book k_check_book b_check_book (av_cons (ev_var (pv 1)) av_nil)))
  (sv_one (sv_if (tv_not (tv_val (ev_fn G_are_alike (takes_of rfl rfl rfl rfl) fm_P (hr.mono (by decide)) (by rfl) g_are_alike k_are_alike b_are_alike (av_cons (ev_var (pv 0)) (av_cons (ev_var (pv 1)) av_nil))))) (sv_one (sv_rs1 R_InvalidOperation rfl (takes_of rfl rfl rfl rfl) (by rfl) ev_str)) sv_nil))))
def m_tuples_of : List D → Option Rv := runP 6 2 (sSeq (sSet 2 (cFr (cLst (aCons (cTup aNil) aNil))))
  (sSeq (sFor (iRg1 (cVar 1)) (tName 3) (sSet 2 (cFr (cLc2 (i1 items3 (cVar 2)) (tName 4) ctY (i1 items3 (cVar 0)) (tName 5) ctY (cTup (aStar (cVar 4) (aCons (cVar 5) aNil))) [4, 5] [5]))))
  (sRet (cVar 2))))
theorem ok_tuples_of {f : Addr} {fd : FuncData} (F : Fun E.K "tuples_of" "tuples_of" s_tuples_of f fd) (B : Blt mg) : FnOk E.P E.w E.K mg base (L2.CX E.P E.w) 1 f fd ["parts", "length"] (spP E 2 m_tuples_of) := by
  exact ok_P (E := E) F sc_tuples_of fun cdv A outer s H F0 Ex hr => (sv_cons (sv_set (ps_set (i := 2) sc_tuples_of.nd rfl (.inl rfl) (ev_fr (ev_lst (av_cons (ev_tup av_nil) av_nil)))))
  (sv_cons (sv_for PassesOwn.leaving rfl (iv_rng1 (by rfl) B.range_ (ev_var (pv 1))) (pg_name (i := 3) sc_tuples_of.nd rfl (.inl rfl)) tg_name (sv_one (sv_set (ps_fr (ps_lcs2 (i := 2) (own := [("before", 4), ("part", 5)]) (vs1 := [5]) rfl sc_tuples_of.nd rfl rfl rfl rfl rfl (iv_all rfl rfl (ev_var (pv 2))) (blkOk_by (own := [("before", 4), ("part", 5)]) (N := nm_tuples_of) (sc := defScope s_tuples_of) (by decide +kernel)) (by decide) (fun _ _ _ _ _ => (pg_name (i := 4) sc_tuples_of.nd rfl (.inl rfl))) tg_name (tgw_name (by decide)) (fun _ _ _ _ _ => pts0) (fun _ _ _ _ _ => pis fun B' => (iv_all rfl rfl (ev_var (pv 0)))) (fun _ _ _ _ _ => (pg_name (i := 5) sc_tuples_of.nd rfl (.inl rfl))) tg_name (tgw_name (by decide)) (fun _ _ _ _ _ => pts0) (fun _ _ _ _ _ => pes fun B' => (ev_tup (av_star rfl (ev_var (pv 4)) (av_cons (ev_var (pv 5)) av_nil)))))))))
  (sv_one (sv_ret (ev_var (pv 2))))))
def m_Book_getitem : List D → Option Rv := runP 2 2 (sSeq (sIf (c2v (fInO true tb_contains) (cVar 1) (cVar 0)) (sRaiseI 5 "name" (cVar 1)) sNil)
  (sRet (c2 fSub (c2 fSub (cAt tb__ties "_ties" (cVar 0)) (cVar 1)) (cC (.int 1)))))
theorem ok_Book_getitem {f : Addr} {fd : FuncData} (F : Fun E.K "__getitem__" "Book.__getitem__" s_Book_getitem f fd) (A__ties : AtOk E.P E.w E.K mg base E 0 tb__ties "_ties") (D_contains : DnOk E.P E.w E.K mg base E 2 2 tb_contains "__contains__") (R_UnknownName : ErI E.P E.w E.K mg base E 1 "UnknownName" 5 "name") : FnOk E.P E.w E.K mg base (L2.CX E.P E.w) 3 f fd ["self", "name"] (spP E 2 m_Book_getitem) := by
  exact ok_P (E := E) F sc_Book_getitem fun cdv A outer s H F0 Ex hr => (sv_cons (sv_if (tv_cmpV (od_ninO D_contains (hr.mono (by decide))) (ev_var (pv 1)) (ev_var (pv 0)) rfl) (sv_one (sv_rsI R_UnknownName rfl (takes_of rfl rfl rfl rfl) (hr.mono (by decide)) (by rfl) (ev_var (pv 1)))) sv_nil)
  (sv_one (sv_ret (ev_sub rfl rfl (hU hr) (ev_sub rfl rfl (hU hr) (ev_at A__ties (hr.mono (by decide)) (ev_var (pv 0))) (ev_var (pv 1)) (fun _ _ => rfl)) ev_int (fun _ _ => rfl)))))
def tb_getitem : MT := [(6, m_Book_getitem)]
def m_does_lead : List D → Option Rv := runP 7 3 (sSeq (sFor (i1 items3 (cAt tb_names "names" (cVar 0))) (tName 3) (sSeq (sSet 4 (cFr (cDc (i1 items3 (cIxO tb_getitem (cVar 1) (cVar 3))) (tName 5) ctY (cVar 5) (cC (.bl true)) [5])))
  (sFor (i1 items3 (cIxO tb_getitem (cVar 0) (cVar 3))) (tName 5) (sIf (c2 (fIn2 true) (cCall fTup (aCons (cFr (cLc (i1 items3 (cVar 5)) (tName 6) ctY (c2 fSub (cVar 2) (cVar 6)) [6])) aNil)) (cVar 4)) (sRet (cC (.bl false))) sNil))))
  (sRet (cC (.bl true))))
theorem ok_does_lead {f : Addr} {fd : FuncData} (F : Fun E.K "does_lead" "does_lead" s_does_lead f fd) (B : Blt mg) (A_names : AtOk E.P E.w E.K mg base E 2 tb_names "names") (D_getitem : DnOk E.P E.w E.K mg base E 3 2 tb_getitem "__getitem__") : FnOk E.P E.w E.K mg base (L2.CX E.P E.w) 5 f fd ["one", "other", "values"] (spP E 3 m_does_lead) := by
  exact ok_P (E := E) F sc_does_lead fun cdv A outer s H F0 Ex hr => (sv_cons (sv_for PassesOwn.leaving rfl (iv_all rfl rfl (ev_at A_names (hr.mono (by decide)) (ev_var (pv 0)))) (pg_name (i := 3) sc_does_lead.nd rfl (.inl rfl)) tg_name (sv_cons (sv_set (ps_fr (ps_dcs (i := 4) (own := [("row", 5)]) rfl rfl rfl (hU hr) rfl sc_does_lead.nd rfl rfl rfl rfl rfl (iv_all rfl rfl (ev_ixO D_getitem (takes_of rfl rfl rfl rfl) (hr.mono (by decide)) (ev_var (pv 1)) (ev_var (pv 3)))) (blkOk_by (own := [("row", 5)]) (N := nm_does_lead) (sc := defScope s_does_lead) (by decide +kernel)) (fun _ _ _ _ _ => (pg_name (i := 5) sc_does_lead.nd rfl (.inl rfl))) tg_name (tgw_name (by decide)) (fun _ _ _ _ _ => pts0) (fun _ _ _ _ _ => pes fun B' => (ev_var (pv 5))) (fun _ _ _ _ _ => pes fun B' => ev_bl))))
  (sv_one (sv_for PassesOwn.leaving rfl (iv_all rfl rfl (ev_ixO D_getitem (takes_of rfl rfl rfl rfl) (hr.mono (by decide)) (ev_var (pv 0)) (ev_var (pv 3)))) (pg_name (i := 5) sc_does_lead.nd rfl (.inl rfl)) tg_name (sv_one (sv_if (tv_cmp (od_nin2 rfl rfl (hU66 hr)) (ev_callTy (cd_tup rfl) (by rfl) B.tuple_ (by decide +kernel) (av_cons (ev_fr (ev_lc (own := [("value", 6)]) rfl sc_does_lead.nd (iv_all rfl rfl (ev_var (pv 5))) (blkOk_by (own := [("value", 6)]) (N := nm_does_lead) (sc := defScope s_does_lead) (by decide +kernel)) (fun _ _ _ _ _ => (pg_name (i := 6) sc_does_lead.nd rfl (.inl rfl))) tg_name (tgw_name (by decide)) (fun _ _ _ _ _ => pts0) (fun _ _ _ _ _ => pes fun B' => (ev_sub rfl rfl (hU hr) (ev_var (pv 2)) (ev_var (pv 6)) (fun _ _ => rfl))))) av_nil)) (ev_var (pv 4)) rfl) (sv_one (sv_ret ev_bl)) sv_nil))))))
  (sv_one (sv_ret ev_bl)))
def tb_size : List AE := [(6, some m_Book_size)]
def m_value_maps : List D → Option Rv := runP 4 2 (sSeq (sExpr (cFn m_check_alike (aCons (cVar 0) (aCons (cVar 1) aNil))))
  (sSeq (sSet 2 (cFn m_tuples_of (aCons (cFr (cLrg (cAt tb_size "size" (cVar 1)))) (aCons (cAt tb_size "size" (cVar 0)) aNil))))
  (sRet (cCall fTup (aCons (cFr (cLc (i1 items3 (cVar 2)) (tName 3) (cFn m_does_lead (aCons (cVar 0) (aCons (cVar 1) (aCons (cVar 3) aNil)))) (cVar 3) [3])) aNil)))))
theorem ok_value_maps {f : Addr} {fd : FuncData} (F : Fun E.K "value_maps" "value_maps" s_value_maps f fd) (B : Blt mg) (C0 : HasT E mg base 5 "does_lead" ["one", "other", "values"] (spP E 3 m_does_lead)) (C1 : HasT E mg base 1 "tuples_of" ["parts", "length"] (spP E 2 m_tuples_of)) (C2 : HasT E mg base 5 "check_alike" ["one", "other"] (spP E 2 m_check_alike)) (A_size : AtOk E.P E.w E.K mg base E 2 tb_size "size") : FnOk E.P E.w E.K mg base (L2.CX E.P E.w) 6 f fd ["one", "other"] (spP E 2 m_value_maps) := by
  obtain ⟨f_does_lead, fd_does_lead, G_does_lead, g_does_lead, k_does_lead, b_does_lead⟩ := C0.ex
  obtain ⟨f_tuples_of, fd_tuples_of, G_tuples_of, g_tuples_of, k_tuples_of, b_tuples_of⟩ := C1.ex
  obtain ⟨f_check_alike, fd_check_alike, G_check_alike, g_check_alike, k_check_alike, b_check_alike⟩ := C2.ex
  exact ok_P (E := E) F sc_value_maps fun cdv A outer s H F0 Ex hr => (sv_cons (sv_expr (ev_fn G_check_alike (takes_of rfl rfl rfl rfl) fm_P (hr.mono (by decide)) (by rfl) g_check_alike k_check_alike b_check_alike (av_cons (ev_var (pv 0)) (av_cons (ev_var (pv 1)) av_nil))))
  (sv_cons (sv_set (ps_set (i := 2) sc_value_maps.nd rfl (.inl rfl) (ev_fn G_tuples_of (takes_of rfl rfl rfl rfl) fm_P (hr.mono (by decide)) (by rfl) g_tuples_of k_tuples_of b_tuples_of (av_cons (ev_fr (ev_lrg rfl (by rfl) B.list_ (by rfl) B.range_ (ev_at A_size (hr.mono (by decide)) (ev_var (pv 1))))) (av_cons (ev_at A_size (hr.mono (by decide)) (ev_var (pv 0))) av_nil)))))
  (sv_one (sv_ret (ev_callTy (cd_tup rfl) (by rfl) B.tuple_ (by decide +kernel) (av_cons (ev_fr (ev_lc (own := [("values", 3)]) rfl sc_value_maps.nd (iv_all rfl rfl (ev_var (pv 2))) (blkOk_by (own := [("values", 3)]) (N := nm_value_maps) (sc := defScope s_value_maps) (by decide +kernel)) (fun _ _ _ _ _ => (pg_name (i := 3) sc_value_maps.nd rfl (.inl rfl))) tg_name (tgw_name (by decide)) (fun _ _ _ _ _ => (pts fun B' => (tv_val (ev_fn G_does_lead takes0 fm_P (hr.mono (by decide)) (by rfl) g_does_lead k_does_lead b_does_lead (av_cons (ev_var (pv 0)) (av_cons (ev_var (pv 1)) (av_cons (ev_var (pv 3)) av_nil))))))) (fun _ _ _ _ _ => pes fun B' => (ev_var (pv 3))))) av_nil))))))
def m_folds : List D → Option Rv := runP 1 1 (sRet (cFn m_value_maps (aCons (cVar 0) (aCons (cVar 0) aNil))))
theorem ok_folds {f : Addr} {fd : FuncData} (F : Fun E.K "folds" "folds" s_folds f fd) (C0 : HasT E mg base 6 "value_maps" ["one", "other"] (spP E 2 m_value_maps)) : FnOk E.P E.w E.K mg base (L2.CX E.P E.w) 7 f fd ["book"] (spP E 1 m_folds) := by
  obtain ⟨f_value_maps, fd_value_maps, G_value_maps, g_value_maps, k_value_maps, b_value_maps⟩ := C0.ex
  exact ok_P (E := E) F sc_folds fun cdv A outer s H F0 Ex hr => (sv_one (sv_ret (ev_fn G_value_maps (takes_of rfl rfl rfl rfl) fm_P (hr.mono (by decide)) (by rfl) g_value_maps k_value_maps b_value_maps (av_cons (ev_var (pv 0)) (av_cons (ev_var (pv 0)) av_nil)))))
def m_led_to : List D → Option Rv := runP 1 1 (sRet (cCall fTup (aCons (cFr (cSS (cVar 0))) aNil)))
theorem ok_led_to {f : Addr} {fd : FuncData} (F : Fun E.K "led_to" "led_to" s_led_to f fd) (B : Blt mg) : FnOk E.P E.w E.K mg base (L2.CX E.P E.w) 1 f fd ["values"] (spP E 1 m_led_to) := by
  exact ok_P (E := E) F sc_led_to fun cdv A outer s H F0 Ex hr => (sv_one (sv_ret (ev_callTy (cd_tup rfl) (by rfl) B.tuple_ (by decide +kernel) (av_cons (ev_fr (ev_ss rfl rfl (by rfl) B.sorted_ (by rfl) B.set_ (ev_var (pv 0)))) av_nil))))
def m_is_core : List D → Option Rv := runP 2 1 (sRet (cCall fAll (aCons (cFr (cLc (i1 items3 (cFn m_folds (aCons (cVar 0) aNil))) (tName 1) ctY (c2 (fEq false) (cCall fLen (aCons (cFn m_led_to (aCons (cVar 1) aNil)) aNil)) (cAt tb_size "size" (cVar 0))) [1])) aNil)))
theorem ok_is_core {f : Addr} {fd : FuncData} (F : Fun E.K "is_core" "is_core" s_is_core f fd) (B : Blt mg) (C0 : HasT E mg base 7 "folds" ["book"] (spP E 1 m_folds)) (C1 : HasT E mg base 1 "led_to" ["values"] (spP E 1 m_led_to)) (A_size : AtOk E.P E.w E.K mg base E 2 tb_size "size") : FnOk E.P E.w E.K mg base (L2.CX E.P E.w) 8 f fd ["book"] (spP E 1 m_is_core) := by
  obtain ⟨f_folds, fd_folds, G_folds, g_folds, k_folds, b_folds⟩ := C0.ex
  obtain ⟨f_led_to, fd_led_to, G_led_to, g_led_to, k_led_to, b_led_to⟩ := C1.ex
  exact ok_P (E := E) F sc_is_core fun cdv A outer s H F0 Ex hr => (sv_one (sv_ret (ev_callB (cd_all rfl rfl) (by rfl) B.all_ (by decide +kernel) (av_cons (ev_fr (ev_lc (own := [("fold", 1)]) rfl sc_is_core.nd (iv_all rfl rfl (ev_fn G_folds (takes_of rfl rfl rfl rfl) fm_P (hr.mono (by decide)) (by rfl) g_folds k_folds b_folds (av_cons (ev_var (pv 0)) av_nil))) (blkOk_by (own := [("fold", 1)]) (N := nm_is_core) (sc := defScope s_is_core) (by decide +kernel)) (fun _ _ _ _ _ => (pg_name (i := 1) sc_is_core.nd rfl (.inl rfl))) tg_name (tgw_name (by decide)) (fun _ _ _ _ _ => pts0) (fun _ _ _ _ _ => pes fun B' => (ev_cmp (od_eq rfl (hU64 hr)) (ev_callB (cd_len rfl rfl) (by rfl) B.len_ (by decide +kernel) (av_cons (ev_fn G_led_to takes0 fm_P (hr.mono (by decide)) (by rfl) g_led_to k_led_to b_led_to (av_cons (ev_var (pv 1)) av_nil)) av_nil)) (ev_at A_size (hr.mono (by decide)) (ev_var (pv 0))) (nomark _))))) av_nil))))
def m_core_values : List D → Option Rv := runP 3 1 (sSeq (sSet 1 (cFr (cLc (i1 items3 (cFn m_folds (aCons (cVar 0) aNil))) (tName 2) ctY (cTup (aCons (cCall fLen (aCons (cFn m_led_to (aCons (cVar 2) aNil)) aNil)) (aCons (cFn m_led_to (aCons (cVar 2) aNil)) aNil))) [2])))
  (sRet (c2 fSub (cCall fMin2 (aCons (cVar 1) aNil)) (cC (.int 1)))))
theorem ok_core_values {f : Addr} {fd : FuncData} (F : Fun E.K "core_values" "core_values" s_core_values f fd) (B : Blt mg) (C0 : HasT E mg base 7 "folds" ["book"] (spP E 1 m_folds)) (C1 : HasT E mg base 1 "led_to" ["values"] (spP E 1 m_led_to)) : FnOk E.P E.w E.K mg base (L2.CX E.P E.w) 8 f fd ["book"] (spP E 1 m_core_values) := by
  obtain ⟨f_folds, fd_folds, G_folds, g_folds, k_folds, b_folds⟩ := C0.ex
  obtain ⟨f_led_to, fd_led_to, G_led_to, g_led_to, k_led_to, b_led_to⟩ := C1.ex
  exact ok_P (E := E) F sc_core_values fun cdv A outer s H F0 Ex hr => (sv_cons (sv_set (ps_fr (ps_lcs (i := 1) (own := [("fold", 2)]) rfl sc_core_values.nd rfl rfl rfl rfl rfl (iv_all rfl rfl (ev_fn G_folds (takes_of rfl rfl rfl rfl) fm_P (hr.mono (by decide)) (by rfl) g_folds k_folds b_folds (av_cons (ev_var (pv 0)) av_nil))) (blkOk_by (own := [("fold", 2)]) (N := nm_core_values) (sc := defScope s_core_values) (by decide +kernel)) (fun _ _ _ _ _ => (pg_name (i := 2) sc_core_values.nd rfl (.inl rfl))) tg_name (tgw_name (by decide)) (fun _ _ _ _ _ => pts0) (fun _ _ _ _ _ => pes fun B' => (ev_tup (av_cons (ev_callB (cd_len rfl rfl) (by rfl) B.len_ (by decide +kernel) (av_cons (ev_fn G_led_to takes0 fm_P (hr.mono (by decide)) (by rfl) g_led_to k_led_to b_led_to (av_cons (ev_var (pv 2)) av_nil)) av_nil)) (av_cons (ev_fn G_led_to takes0 fm_P (hr.mono (by decide)) (by rfl) g_led_to k_led_to b_led_to (av_cons (ev_var (pv 2)) av_nil)) av_nil)))))))
  (sv_one (sv_ret (ev_sub rfl rfl (hU hr) (ev_callB (cd_min2 rfl (hU64 hr) rfl) (by rfl) B.min_ (by decide +kernel) (av_cons (ev_var (pv 1)) av_nil)) ev_int (fun _ _ => rfl)))))
def m_core_fold : List D → Option Rv := runP 5 1 (sSeq (sSet 1 (cFn m_core_values (aCons (cVar 0) aNil)))
  (sSeq (sSet 2 (cFr (cLc (i1 items3 (cFn m_folds (aCons (cVar 0) aNil))) (tName 3) (cAnd (c2 (fEq false) (cFn m_led_to (aCons (cVar 3) aNil)) (cVar 1)) (cCall fAll (aCons (cFr (cLc (i1 items3 (cVar 1)) (tName 4) ctY (c2 (fEq false) (c2 fSub (cVar 3) (cVar 4)) (cVar 4)) [4])) aNil))) (cVar 3) [3])))
  (sRet (c2 fSub (cVar 2) (cC (.int 0))))))
theorem ok_core_fold {f : Addr} {fd : FuncData} (F : Fun E.K "core_fold" "core_fold" s_core_fold f fd) (B : Blt mg) (C0 : HasT E mg base 7 "folds" ["book"] (spP E 1 m_folds)) (C1 : HasT E mg base 1 "led_to" ["values"] (spP E 1 m_led_to)) (C2 : HasT E mg base 8 "core_values" ["book"] (spP E 1 m_core_values)) : FnOk E.P E.w E.K mg base (L2.CX E.P E.w) 9 f fd ["book"] (spP E 1 m_core_fold) := by
  obtain ⟨f_folds, fd_folds, G_folds, g_folds, k_folds, b_folds⟩ := C0.ex
  obtain ⟨f_led_to, fd_led_to, G_led_to, g_led_to, k_led_to, b_led_to⟩ := C1.ex
  obtain ⟨f_core_values, fd_core_values, G_core_values, g_core_values, k_core_values, b_core_values⟩ := C2.ex
  exact ok_P (E := E) F sc_core_fold fun cdv A outer s H F0 Ex hr => (sv_cons (sv_set (ps_set (i := 1) sc_core_fold.nd rfl (.inr rfl) (ev_fn G_core_values (takes_of rfl rfl rfl rfl) fm_P (hr.mono (by decide)) (by rfl) g_core_values k_core_values b_core_values (av_cons (ev_var (pv 0)) av_nil))))
  (sv_cons (sv_set (ps_fr (ps_lcs (i := 2) (own := [("fold", 3)]) rfl sc_core_fold.nd rfl rfl rfl rfl rfl (iv_all rfl rfl (ev_fn G_folds (takes_of rfl rfl rfl rfl) fm_P (hr.mono (by decide)) (by rfl) g_folds k_folds b_folds (av_cons (ev_var (pv 0)) av_nil))) (blkOk_by (own := [("fold", 3)]) (N := nm_core_fold) (sc := defScope s_core_fold) (by decide +kernel)) (fun _ _ _ _ _ => (pg_name (i := 3) sc_core_fold.nd rfl (.inr rfl))) tg_name (tgw_name (by decide)) (fun _ _ _ _ _ => (pts fun B' => (PW.pt (wv_and (tv_cmp (od_eq rfl (hU64 hr)) (ev_fn G_led_to takes0 fm_P (hr.mono (by decide)) (by rfl) g_led_to k_led_to b_led_to (av_cons (ev_var (pv 3)) av_nil)) (ev_var (pv 1)) (nomark _)) (wv_one_and (tv_val (ev_callB (cd_all rfl rfl) (by rfl) B.all_ (by decide +kernel) (av_cons (ev_fr (ev_lc (own := [("value", 4)]) rfl sc_core_fold.nd (iv_all rfl rfl (ev_var (pv 1))) (blkOk_by (own := [("value", 4)]) (N := nm_core_fold) (sc := _) (by kernel_rfl)) (fun _ _ _ _ _ => (pg_name (i := 4) sc_core_fold.nd rfl (.inl rfl))) tg_name (tgw_name (by decide)) (fun _ _ _ _ _ => pts0) (fun _ _ _ _ _ => pes fun B' => (ev_cmp (od_eq rfl (hU64 hr)) (ev_sub rfl rfl (hU hr) (ev_var (pv 3)) (ev_var (pv 4)) (fun _ _ => rfl)) (ev_var (pv 4)) (nomark _))))) av_nil)))))))) (fun _ _ _ _ _ => pes fun B' => (ev_var (pv 3))))))
  (sv_one (sv_ret (ev_sub rfl rfl (hU hr) (ev_var (pv 2)) ev_int (fun _ _ => rfl))))))
def m_grab : List D → List D → Option (Rv × List D) := runC 5 2 (sSeq (sIf (c2 (fI2 fun i j => .bl (decide (j < i))) (c2 fSub (cVar 0) (cC (.int 0))) (cC (.int 0))) (sSeq (sSet 2 (c2 (fI2c (fun _ j => decide (0 < j)) fun i j => .int (i % j)) (cCall fInt (aCons (c2 fSub (cVar 0) (cC (.int 0))) aNil)) (cVar 1)))
  (sSeq (sPut (c2 (fI2c (fun _ j => decide (0 < j ∧ j < 1073741824)) fun i j => .int (i / j)) (c2 fSub (cVar 0) (cC (.int 0))) (cVar 1)) (cVar 0) (cC (.int 0)))
  (sRet (cVar 2)))) sNil)
  (sSeq (sPut (c2 fAdd (c2 fSub (cVar 0) (cC (.int 2))) (cC (.int 1))) (cVar 0) (cC (.int 2)))
  (sSeq (sSet 3 (c2 (fI2c (fun _ j => decide (0 < j)) fun i j => .int (i % j)) (cCall fInt (aCons (c2 fAdd (c2 fSub (cVar 0) (cC (.int 1))) (c2 fMul (cC (.int 1000427)) (c2 fSub (cVar 0) (cC (.int 2))))) aNil)) (cC (.int 2305843009213693951))))
  (sSeq (sSet 4 (c2 fAdd (c2 fMul (c2 (fI2c (fun _ j => decide (0 < j)) fun i j => .int (i % j)) (cCall fInt (aCons (c2 fMul (cVar 3) (cVar 3)) aNil)) (cC (.int 2305843009213693921))) (cVar 3)) (c2 fMul (cC (.int 9103)) (c2 fSub (cVar 0) (cC (.int 2))))))
  (sRet (c2 (fI2c (fun _ j => decide (0 < j)) fun i j => .int (i % j)) (cCall fInt (aCons (c2 (fI2c (fun _ j => decide (0 < j ∧ j < 1073741824)) fun i j => .int (i / j)) (c2 (fI2c (fun _ j => decide (0 < j)) fun i j => .int (i % j)) (cCall fInt (aCons (cVar 4) aNil)) (cC (.int 2305843009213693907))) (cC (.int 16384))) aNil)) (cVar 1)))))))
theorem ok_grab {f : Addr} {fd : FuncData} (F : Fun E.K "_law_grab" "_law_grab" s_grab f fd) (B : Blt mg) : FnOk E.P E.w E.K mg base (L2.CX E.P E.w) 1 f fd ["_law_sack_here", "_law_total"] (spC E 2 m_grab) := by
  exact ok_C (E := E) F sc_grab fun cdv A outer s H F0 o Ex hr => (sv_cons (sv_if (tv_cmp od_gt (ev_sub rfl rfl (hU hr) (ev_var (pv 0)) ev_int (fun _ _ => rfl)) ev_int (nomark _)) (sv_cons (sv_set (ps_set (i := 2) sc_grab.nd rfl (.inl rfl) (ev_op od_mod (ev_callTy cd_int (by rfl) B.int_ (by decide +kernel) (av_cons (ev_sub rfl rfl (hU hr) (ev_var (pv 0)) ev_int (fun _ _ => rfl)) av_nil)) (ev_var (pv 1)))))
  (sv_cons (sv_put rfl rfl (hU hr) (ev_var (pv 0)) ev_int (ev_op od_div (ev_sub rfl rfl (hU hr) (ev_var (pv 0)) ev_int (fun _ _ => rfl)) (ev_var (pv 1))))
  (sv_one (sv_ret (ev_var (pv 2)))))) sv_nil)
  (sv_cons (sv_put rfl rfl (hU hr) (ev_var (pv 0)) ev_int (ev_op (od_add rfl) (ev_sub rfl rfl (hU hr) (ev_var (pv 0)) ev_int (fun _ _ => rfl)) ev_int))
  (sv_cons (sv_set (ps_set (i := 3) sc_grab.nd rfl (.inl rfl) (ev_op od_mod (ev_callTy cd_int (by rfl) B.int_ (by decide +kernel) (av_cons (ev_op (od_add rfl) (ev_sub rfl rfl (hU hr) (ev_var (pv 0)) ev_int (fun _ _ => rfl)) (ev_op od_mul ev_int (ev_sub rfl rfl (hU hr) (ev_var (pv 0)) ev_int (fun _ _ => rfl)))) av_nil)) ev_int)))
  (sv_cons (sv_set (ps_set (i := 4) sc_grab.nd rfl (.inl rfl) (ev_op (od_add rfl) (ev_op od_mul (ev_op od_mod (ev_callTy cd_int (by rfl) B.int_ (by decide +kernel) (av_cons (ev_op od_mul (ev_var (pv 3)) (ev_var (pv 3))) av_nil)) ev_int) (ev_var (pv 3))) (ev_op od_mul ev_int (ev_sub rfl rfl (hU hr) (ev_var (pv 0)) ev_int (fun _ _ => rfl))))))
  (sv_one (sv_ret (ev_op od_mod (ev_callTy cd_int (by rfl) B.int_ (by decide +kernel) (av_cons (ev_op od_div (ev_op od_mod (ev_callTy cd_int (by rfl) B.int_ (by decide +kernel) (av_cons (ev_var (pv 4)) av_nil)) ev_int) ev_int) av_nil)) (ev_var (pv 1)))))))))
def m_one_of : List D → List D → Option (Rv × List D) := runC 2 2 (sRet (c2 fSub (cVar 1) (cFnC m_grab (aCons (cVar 0) (aCons (cCall fLen (aCons (cVar 1) aNil)) aNil)))))
theorem ok_one_of {f : Addr} {fd : FuncData} (F : Fun E.K "_law_one_of" "_law_one_of" s_one_of f fd) (B : Blt mg) (C0 : HasT E mg base 1 "_law_grab" ["_law_sack_here", "_law_total"] (spC E 2 m_grab)) : FnOk E.P E.w E.K mg base (L2.CX E.P E.w) 2 f fd ["_law_sack_here", "_law_items"] (spC E 2 m_one_of) := by
  obtain ⟨f_grab, fd_grab, G_grab, g_grab, k_grab, b_grab⟩ := C0.ex
  exact ok_C (E := E) F sc_one_of fun cdv A outer s H F0 o Ex hr => (sv_one (sv_ret (ev_sub rfl rfl (hU hr) (ev_var (pv 1)) (ev_fnC G_grab (takes_of rfl rfl rfl rfl) fm_C (hr.mono (by decide)) (by rfl) g_grab k_grab b_grab (av_cons (ev_var (pv 0)) (av_cons (ev_callB (cd_len rfl rfl) (by rfl) B.len_ (by decide +kernel) (av_cons (ev_var (pv 1)) av_nil)) av_nil))) (fun _ _ => rfl))))
def m_check_name : List D → Option Rv := runP 1 1 (sIf (cNot (cFn m_is_name (aCons (cVar 0) aNil))) (sRaise1 1 (cC (.str "a name has one to eight small letters"))) sNil)
theorem ok_check_name {f : Addr} {fd : FuncData} (F : Fun E.K "check_name" "check_name" s_check_name f fd) (C0 : HasT E mg base 1 "is_name" ["value"] (spP E 1 m_is_name)) (R_InvalidName : Er1 E.K mg E "InvalidName" 1) : FnOk E.P E.w E.K mg base (L2.CX E.P E.w) 2 f fd ["name"] (spP E 1 m_check_name) := by
  obtain ⟨f_is_name, fd_is_name, G_is_name, g_is_name, k_is_name, b_is_name⟩ := C0.ex
  exact ok_P (E := E) F sc_check_name fun cdv A outer s H F0 Ex hr => (sv_one (sv_if (tv_not (tv_val (ev_fn G_is_name (takes_of rfl rfl rfl rfl) fm_P (hr.mono (by decide)) (by rfl) g_is_name k_is_name b_is_name (av_cons (ev_var (pv 0)) av_nil)))) (sv_one (sv_rs1 R_InvalidName rfl (takes_of rfl rfl rfl rfl) (by rfl) ev_str)) sv_nil))
def m_Book_with_tie : List D → Option Rv := runP 5 4 (sSeq (sExpr (cFn m_check_name (aCons (cVar 1) aNil)))
  (sSeq (sCel 4 (cCall fDict (aCons (cAt tb__ties "_ties" (cVar 0)) aNil)))
  (sSeq (sPut (cTup (aCons (cVar 2) (aCons (cVar 3) aNil))) (cVar 4) (cVar 1))
  (sSeq (sFrz 0 4) (sRet (cMake 6 m_Book_init (aCons (cAt tb__size "_size" (cVar 0)) (aCons (cVar 4) aNil))))))))
theorem ok_Book_with_tie {f : Addr} {fd : FuncData} (F : Fun E.K "with_tie" "Book.with_tie" s_Book_with_tie f fd) (B : Blt mg) (C0 : HasT E mg base 2 "check_name" ["name"] (spP E 1 m_check_name)) (I_Book : MkT E mg base 8 6 3 "Book" m_Book_init) (A__size : AtOk E.P E.w E.K mg base E 0 tb__size "_size") (A__ties : AtOk E.P E.w E.K mg base E 0 tb__ties "_ties") : FnOk E.P E.w E.K mg base (L2.CX E.P E.w) 10 f fd ["self", "name", "places", "rows"] (spP E 4 m_Book_with_tie) := by
  obtain ⟨f_check_name, fd_check_name, G_check_name, g_check_name, k_check_name, b_check_name⟩ := C0.ex
  exact ok_P (E := E) F sc_Book_with_tie fun cdv A outer s H F0 Ex hr => (sv_cons (sv_expr (ev_fn G_check_name (takes_of rfl rfl rfl rfl) fm_P (hr.mono (by decide)) (by rfl) g_check_name k_check_name b_check_name (av_cons (ev_var (pv 1)) av_nil)))
  (sv_cons (sv_cel (ps_set (i := 4) sc_Book_with_tie.nd rfl (.inl rfl) (ev_callTy cd_dict (by rfl) B.dict_ (by decide +kernel) (av_cons (ev_at A__ties (hr.mono (by decide)) (ev_var (pv 0))) av_nil))))
  (sv_cons (sv_put rfl rfl (hU hr) (ev_var (pv 4)) (ev_var (pv 1)) (ev_tup (av_cons (ev_var (pv 2)) (av_cons (ev_var (pv 3)) av_nil))))
  (sv_frz (i := 4) (sv_one (sv_ret (let ⟨_, _, _, k1, k2, k3⟩ := I_Book.ex; ev_make (c := 6) k1 k2 fm_I (takes_of rfl rfl rfl rfl) (hr.mono (by decide)) (by rfl) I_Book.g k3 (av_cons (ev_at A__size (hr.mono (by decide)) (ev_var (pv 0))) (av_cons (ev_var (pv 4)) av_nil)))))))))
def m_is_value_map : List D → Option Rv := runP 3 3 (sSeq (sExpr (cFn m_check_alike (aCons (cVar 0) (aCons (cVar 1) aNil))))
  (sRet (cAnd (cFn m_is_row (aCons (cAt tb_size "size" (cVar 1)) (aCons (cAt tb_size "size" (cVar 0)) (aCons (cVar 2) aNil)))) (cFn m_does_lead (aCons (cVar 0) (aCons (cVar 1) (aCons (cVar 2) aNil)))))))
theorem ok_is_value_map {f : Addr} {fd : FuncData} (F : Fun E.K "is_value_map" "is_value_map" s_is_value_map f fd) (C0 : HasT E mg base 5 "does_lead" ["one", "other", "values"] (spP E 3 m_does_lead)) (C1 : HasT E mg base 4 "is_row" ["size", "places", "value"] (spP E 3 m_is_row)) (C2 : HasT E mg base 5 "check_alike" ["one", "other"] (spP E 2 m_check_alike)) (A_size : AtOk E.P E.w E.K mg base E 2 tb_size "size") : FnOk E.P E.w E.K mg base (L2.CX E.P E.w) 6 f fd ["one", "other", "value"] (spP E 3 m_is_value_map) := by
  obtain ⟨f_does_lead, fd_does_lead, G_does_lead, g_does_lead, k_does_lead, b_does_lead⟩ := C0.ex
  obtain ⟨f_is_row, fd_is_row, G_is_row, g_is_row, k_is_row, b_is_row⟩ := C1.ex
  obtain ⟨f_check_alike, fd_check_alike, G_check_alike, g_check_alike, k_check_alike, b_check_alike⟩ := C2.ex
  exact ok_P (E := E) F sc_is_value_map fun cdv A outer s H F0 Ex hr => (sv_cons (sv_expr (ev_fn G_check_alike (takes_of rfl rfl rfl rfl) fm_P (hr.mono (by decide)) (by rfl) g_check_alike k_check_alike b_check_alike (av_cons (ev_var (pv 0)) (av_cons (ev_var (pv 1)) av_nil))))
  (sv_one (sv_ret (ev_and (ev_fn G_is_row (takes_of rfl rfl rfl rfl) fm_P (hr.mono (by decide)) (by rfl) g_is_row k_is_row b_is_row (av_cons (ev_at A_size (hr.mono (by decide)) (ev_var (pv 1))) (av_cons (ev_at A_size (hr.mono (by decide)) (ev_var (pv 0))) (av_cons (ev_var (pv 2)) av_nil)))) (ev_one (ev_fn G_does_lead (takes_of rfl rfl rfl rfl) fm_P (hr.mono (by decide)) (by rfl) g_does_lead k_does_lead b_does_lead (av_cons (ev_var (pv 0)) (av_cons (ev_var (pv 1)) (av_cons (ev_var (pv 2)) av_nil)))))))))
def m_core : List D → Option Rv := runP 9 1 (sSeq (sSet 1 (cFn m_core_values (aCons (cVar 0) aNil)))
  (sSeq (sSet 2 (cFr (cDc (i1 fEnum (cVar 1)) (tTupT 2 (tsCons (tName 6) (tsCons (tName 7) tsNil))) ctY (cVar 7) (cVar 6) [6, 7])))
  (sSeq (sCel 3 cDic0)
  (sSeq (sFor (i1 items3 (cAt tb_names "names" (cVar 0))) (tName 4) (sSeq (sSet 5 (cFr (cLc (i1 items3 (cIxO tb_getitem (cVar 0) (cVar 4))) (tName 8) (cCall fAll (aCons (cFr (cLc (i1 items3 (cVar 8)) (tName 7) ctY (c2 (fIn2 false) (cVar 7) (cVar 2)) [7])) aNil)) (cVar 8) [8])))
  (sPut (cTup (aCons (cMth tm_places "places" (cVar 0) (aCons (cVar 4) aNil)) (aCons (cCall fTup (aCons (cFr (cLc (i1 items3 (cVar 5)) (tName 8) ctY (cCall fTup (aCons (cFr (cLc (i1 items3 (cVar 8)) (tName 7) ctY (c2 fSub (cVar 2) (cVar 7)) [7])) aNil)) [8])) aNil)) aNil))) (cVar 3) (cVar 4))))
  (sSeq (sFrz 0 3) (sRet (cMake 6 m_Book_init (aCons (cCall fLen (aCons (cVar 1) aNil)) (aCons (cVar 3) aNil)))))))))
theorem ok_core {f : Addr} {fd : FuncData} (F : Fun E.K "core" "core" s_core f fd) (B : Blt mg) (C0 : HasT E mg base 8 "core_values" ["book"] (spP E 1 m_core_values)) (I_Book : MkT E mg base 8 6 3 "Book" m_Book_init) (A_names : AtOk E.P E.w E.K mg base E 2 tb_names "names") (M_places : MtOk E.P E.w E.K mg base E 3 2 tm_places "places") (D_getitem : DnOk E.P E.w E.K mg base E 3 2 tb_getitem "__getitem__") : FnOk E.P E.w E.K mg base (L2.CX E.P E.w) 10 f fd ["book"] (spP E 1 m_core) := by
  obtain ⟨f_core_values, fd_core_values, G_core_values, g_core_values, k_core_values, b_core_values⟩ := C0.ex
  exact ok_P (E := E) F sc_core fun cdv A outer s H F0 Ex hr => (sv_cons (sv_set (ps_set (i := 1) sc_core.nd rfl (.inl rfl) (ev_fn G_core_values (takes_of rfl rfl rfl rfl) fm_P (hr.mono (by decide)) (by rfl) g_core_values k_core_values b_core_values (av_cons (ev_var (pv 0)) av_nil))))
  (sv_cons (sv_set (ps_set (i := 2) sc_core.nd rfl (.inr rfl) (ev_fr (ev_dc (own := [("number", 6), ("value", 7)]) rfl rfl rfl (hU hr) rfl sc_core.nd (iv_enum rfl (by rfl) B.enumerate_ (ev_var (pv 1))) (blkOk_by (own := [("number", 6), ("value", 7)]) (N := nm_core) (sc := defScope s_core) (by decide +kernel)) (fun _ _ _ _ _ => (pg_tup rfl (pgs_cons (pg_name (i := 6) sc_core.nd rfl (.inl rfl)) (pgs_cons (pg_name (i := 7) sc_core.nd rfl (.inl rfl)) pgs_nil)))) (tg_tup (tgs_cons tg_name (tgs_cons tg_name tgs_nil))) (tgw_tup (tgsw_cons tgm_name (tgsm_cons tgm_name tgsm_nil) (tgw_name (by decide)) (tgsw_cons tgm_name tgsm_nil (tgw_name (by decide)) tgsw_nil))) (fun _ _ _ _ _ => pts0) (fun _ _ _ _ _ => pes fun B' => (ev_var (pv 7))) (fun _ _ _ _ _ => pes fun B' => (ev_var (pv 6)))))))
  (sv_cons (sv_cel (ps_set (i := 3) sc_core.nd rfl (.inl rfl) ev_dic0))
  (sv_cons (sv_for PassesOwn.leaving rfl (iv_all rfl rfl (ev_at A_names (hr.mono (by decide)) (ev_var (pv 0)))) (pg_name (i := 4) sc_core.nd rfl (.inl rfl)) tg_name (sv_cons (sv_set (ps_fr (ps_lcs (i := 5) (own := [("row", 8)]) rfl sc_core.nd rfl rfl rfl rfl rfl (iv_all rfl rfl (ev_ixO D_getitem (takes_of rfl rfl rfl rfl) (hr.mono (by decide)) (ev_var (pv 0)) (ev_var (pv 4)))) (blkOk_by (own := [("row", 8)]) (N := nm_core) (sc := defScope s_core) (by decide +kernel)) (fun _ _ _ _ _ => (pg_name (i := 8) sc_core.nd rfl (.inl rfl))) tg_name (tgw_name (by decide)) (fun _ _ _ _ _ => (pts fun B' => (tv_val (ev_callB (cd_all rfl rfl) (by rfl) B.all_ (by decide +kernel) (av_cons (ev_fr (ev_lc (own := [("value", 7)]) rfl sc_core.nd (iv_all rfl rfl (ev_var (pv 8))) (blkOk_by (own := [("value", 7)]) (N := nm_core) (sc := _) (by kernel_rfl)) (fun _ _ _ _ _ => (pg_name (i := 7) sc_core.nd rfl (.inl rfl))) tg_name (tgw_name (by decide)) (fun _ _ _ _ _ => pts0) (fun _ _ _ _ _ => pes fun B' => (ev_cmp (od_in2 rfl rfl (hU66 hr)) (ev_var (pv 7)) (ev_var (pv 2)) rfl)))) av_nil))))) (fun _ _ _ _ _ => pes fun B' => (ev_var (pv 8))))))
  (sv_one (sv_put rfl rfl (hU hr) (ev_var (pv 3)) (ev_var (pv 4)) (ev_tup (av_cons (ev_mth M_places (takes_of rfl rfl rfl rfl) (hr.mono (by decide)) (ev_var (pv 0)) (av_cons (ev_var (pv 4)) av_nil)) (av_cons (ev_callTy (cd_tup rfl) (by rfl) B.tuple_ (by decide +kernel) (av_cons (ev_fr (ev_lc (own := [("row", 8)]) rfl sc_core.nd (iv_all rfl rfl (ev_var (pv 5))) (blkOk_by (own := [("row", 8)]) (N := nm_core) (sc := defScope s_core) (by decide +kernel)) (fun _ _ _ _ _ => (pg_name (i := 8) sc_core.nd rfl (.inl rfl))) tg_name (tgw_name (by decide)) (fun _ _ _ _ _ => pts0) (fun _ _ _ _ _ => pes fun B' => (ev_callTy (cd_tup rfl) (by rfl) B.tuple_ (by decide +kernel) (av_cons (ev_fr (ev_lc (own := [("value", 7)]) rfl sc_core.nd (iv_all rfl rfl (ev_var (pv 8))) (blkOk_by (own := [("value", 7)]) (N := nm_core) (sc := _) (by kernel_rfl)) (fun _ _ _ _ _ => (pg_name (i := 7) sc_core.nd rfl (.inl rfl))) tg_name (tgw_name (by decide)) (fun _ _ _ _ _ => pts0) (fun _ _ _ _ _ => pes fun B' => (ev_sub rfl rfl (hU hr) (ev_var (pv 2)) (ev_var (pv 7)) (fun _ _ => rfl))))) av_nil))))) av_nil)) av_nil)))))))
  (sv_frz (i := 3) (sv_one (sv_ret (let ⟨_, _, _, k1, k2, k3⟩ := I_Book.ex; ev_make (c := 6) k1 k2 fm_I (takes_of rfl rfl rfl rfl) (hr.mono (by decide)) (by rfl) I_Book.g k3 (av_cons (ev_callB (cd_len rfl rfl) (by rfl) B.len_ (by decide +kernel) (av_cons (ev_var (pv 1)) av_nil)) (av_cons (ev_var (pv 3)) av_nil))))))))))
def m_is_values : List D → Option Rv := runP 3 2 (sRet (cAnd (cCall (fIsA csL) (aCons (cVar 1) (aCons (cC (.ty "tuple")) aNil))) (cCall fAll (aCons (cFr (cLc (i1 items3 (cVar 1)) (tName 2) ctY (cFn m_is_below (aCons (cVar 2) (aCons (cVar 0) aNil))) [2])) aNil))))
theorem ok_is_values {f : Addr} {fd : FuncData} (F : Fun E.K "is_values" "is_values" s_is_values f fd) (CO : ClsOk E) (KT : KitOk E csL) (B : Blt mg) (C0 : HasT E mg base 3 "is_below" ["value", "limit"] (spP E 2 m_is_below)) : FnOk E.P E.w E.K mg base (L2.CX E.P E.w) 4 f fd ["size", "value"] (spP E 2 m_is_values) := by
  obtain ⟨f_is_below, fd_is_below, G_is_below, g_is_below, k_is_below, b_is_below⟩ := C0.ex
  exact ok_P (E := E) F sc_is_values fun cdv A outer s H F0 Ex hr => (sv_one (sv_ret (ev_and (ev_callB (cd_isa rfl rfl CO KT) (by rfl) B.isinstance_ (by decide +kernel) (av_cons (ev_var (pv 1)) (av_cons (ev_c (pe_bltn (v := .ty "tuple") rfl B.tuple_ (by decide +kernel) rfl) fun _ => .ty "tuple") av_nil))) (ev_one (ev_callB (cd_all rfl rfl) (by rfl) B.all_ (by decide +kernel) (av_cons (ev_fr (ev_lc (own := [("part", 2)]) rfl sc_is_values.nd (iv_all rfl rfl (ev_var (pv 1))) (blkOk_by (own := [("part", 2)]) (N := nm_is_values) (sc := defScope s_is_values) (by decide +kernel)) (fun _ _ _ _ _ => (pg_name (i := 2) sc_is_values.nd rfl (.inl rfl))) tg_name (tgw_name (by decide)) (fun _ _ _ _ _ => pts0) (fun _ _ _ _ _ => pes fun B' => (ev_fn G_is_below takes0 fm_P (hr.mono (by decide)) (by rfl) g_is_below k_is_below b_is_below (av_cons (ev_var (pv 2)) (av_cons (ev_var (pv 0)) av_nil)))))) av_nil))))))
def m_to_core : List D → Option Rv := runP 5 2 (sSeq (sExpr (cFn m_check_book (aCons (cVar 0) aNil)))
  (sSeq (sIf (cNot (cFn m_is_values (aCons (cAt tb_size "size" (cVar 0)) (aCons (cVar 1) aNil)))) (sRaise1 3 (cC (.str "this is no tuple of values of the book"))) sNil)
  (sSeq (sSet 2 (cFn m_core_values (aCons (cVar 0) aNil)))
  (sSeq (sSet 3 (cFn m_core_fold (aCons (cVar 0) aNil)))
  (sRet (cCall fTup (aCons (cFr (cLc (i1 items3 (cVar 1)) (tName 4) ctY (cIdx (cVar 2) (c2 fSub (cVar 3) (cVar 4))) [4])) aNil)))))))
theorem ok_to_core {f : Addr} {fd : FuncData} (F : Fun E.K "to_core" "to_core" s_to_core f fd) (B : Blt mg) (C0 : HasT E mg base 9 "core_fold" ["book"] (spP E 1 m_core_fold)) (C1 : HasT E mg base 8 "core_values" ["book"] (spP E 1 m_core_values)) (C2 : HasT E mg base 4 "is_values" ["size", "value"] (spP E 2 m_is_values)) (C3 : HasT E mg base 1 "check_book" ["book"] (spP E 1 m_check_book)) (A_size : AtOk E.P E.w E.K mg base E 2 tb_size "size") (R_InvalidOperation : Er1 E.K mg E "InvalidOperation" 3) : FnOk E.P E.w E.K mg base (L2.CX E.P E.w) 10 f fd ["book", "values"] (spP E 2 m_to_core) := by
  obtain ⟨f_core_fold, fd_core_fold, G_core_fold, g_core_fold, k_core_fold, b_core_fold⟩ := C0.ex
  obtain ⟨f_core_values, fd_core_values, G_core_values, g_core_values, k_core_values, b_core_values⟩ := C1.ex
  obtain ⟨f_is_values, fd_is_values, G_is_values, g_is_values, k_is_values, b_is_values⟩ := C2.ex
  obtain ⟨f_check_book, fd_check_book, G_check_book, g_check_book, k_check_book, b_check_book⟩ := C3.ex
  exact ok_P (E := E) F sc_to_core fun cdv A outer s H F0 Ex hr => (sv_cons (sv_expr (ev_fn G_check_book (takes_of rfl rfl rfl rfl) fm_P (hr.mono (by decide)) (by rfl) g_check_book k_check_book b_check_book (av_cons (ev_var (pv 0)) av_nil)))
  (sv_cons (sv_if (tv_not (tv_val (ev_fn G_is_values (takes_of rfl rfl rfl rfl) fm_P (hr.mono (by decide)) (by rfl) g_is_values k_is_values b_is_values (av_cons (ev_at A_size (hr.mono (by decide)) (ev_var (pv 0))) (av_cons (ev_var (pv 1)) av_nil))))) (sv_one (sv_rs1 R_InvalidOperation rfl (takes_of rfl rfl rfl rfl) (by rfl) ev_str)) sv_nil)
  (sv_cons (sv_set (ps_set (i := 2) sc_to_core.nd rfl (.inr rfl) (ev_fn G_core_values (takes_of rfl rfl rfl rfl) fm_P (hr.mono (by decide)) (by rfl) g_core_values k_core_values b_core_values (av_cons (ev_var (pv 0)) av_nil))))
  (sv_cons (sv_set (ps_set (i := 3) sc_to_core.nd rfl (.inr rfl) (ev_fn G_core_fold (takes_of rfl rfl rfl rfl) fm_P (hr.mono (by decide)) (by rfl) g_core_fold k_core_fold b_core_fold (av_cons (ev_var (pv 0)) av_nil))))
  (sv_one (sv_ret (ev_callTy (cd_tup rfl) (by rfl) B.tuple_ (by decide +kernel) (av_cons (ev_fr (ev_lc (own := [("value", 4)]) rfl sc_to_core.nd (iv_all rfl rfl (ev_var (pv 1))) (blkOk_by (own := [("value", 4)]) (N := nm_to_core) (sc := defScope s_to_core) (by decide +kernel)) (fun _ _ _ _ _ => (pg_name (i := 4) sc_to_core.nd rfl (.inl rfl))) tg_name (tgw_name (by decide)) (fun _ _ _ _ _ => pts0) (fun _ _ _ _ _ => pes fun B' => (ev_index rfl (hU65 hr) (ev_var (pv 2)) (ev_sub rfl rfl (hU hr) (ev_var (pv 3)) (ev_var (pv 4)) (fun _ _ => rfl)))))) av_nil))))))))
def m_from_core : List D → Option Rv := runP 4 2 (sSeq (sSet 2 (cFn m_core_values (aCons (cVar 0) aNil)))
  (sSeq (sIf (cNot (cFn m_is_values (aCons (cCall fLen (aCons (cVar 2) aNil)) (aCons (cVar 1) aNil)))) (sRaise1 3 (cC (.str "this is no tuple of values of the core"))) sNil)
  (sRet (cCall fTup (aCons (cFr (cLc (i1 items3 (cVar 1)) (tName 3) ctY (c2 fSub (cVar 2) (cVar 3)) [3])) aNil)))))
theorem ok_from_core {f : Addr} {fd : FuncData} (F : Fun E.K "from_core" "from_core" s_from_core f fd) (B : Blt mg) (C0 : HasT E mg base 4 "is_values" ["size", "value"] (spP E 2 m_is_values)) (C1 : HasT E mg base 8 "core_values" ["book"] (spP E 1 m_core_values)) (R_InvalidOperation : Er1 E.K mg E "InvalidOperation" 3) : FnOk E.P E.w E.K mg base (L2.CX E.P E.w) 9 f fd ["book", "values"] (spP E 2 m_from_core) := by
  obtain ⟨f_is_values, fd_is_values, G_is_values, g_is_values, k_is_values, b_is_values⟩ := C0.ex
  obtain ⟨f_core_values, fd_core_values, G_core_values, g_core_values, k_core_values, b_core_values⟩ := C1.ex
  exact ok_P (E := E) F sc_from_core fun cdv A outer s H F0 Ex hr => (sv_cons (sv_set (ps_set (i := 2) sc_from_core.nd rfl (.inr rfl) (ev_fn G_core_values (takes_of rfl rfl rfl rfl) fm_P (hr.mono (by decide)) (by rfl) g_core_values k_core_values b_core_values (av_cons (ev_var (pv 0)) av_nil))))
  (sv_cons (sv_if (tv_not (tv_val (ev_fn G_is_values (takes_of rfl rfl rfl rfl) fm_P (hr.mono (by decide)) (by rfl) g_is_values k_is_values b_is_values (av_cons (ev_callB (cd_len rfl rfl) (by rfl) B.len_ (by decide +kernel) (av_cons (ev_var (pv 2)) av_nil)) (av_cons (ev_var (pv 1)) av_nil))))) (sv_one (sv_rs1 R_InvalidOperation rfl (takes_of rfl rfl rfl rfl) (by rfl) ev_str)) sv_nil)
  (sv_one (sv_ret (ev_callTy (cd_tup rfl) (by rfl) B.tuple_ (by decide +kernel) (av_cons (ev_fr (ev_lc (own := [("value", 3)]) rfl sc_from_core.nd (iv_all rfl rfl (ev_var (pv 1))) (blkOk_by (own := [("value", 3)]) (N := nm_from_core) (sc := defScope s_from_core) (by decide +kernel)) (fun _ _ _ _ _ => (pg_name (i := 3) sc_from_core.nd rfl (.inl rfl))) tg_name (tgw_name (by decide)) (fun _ _ _ _ _ => pts0) (fun _ _ _ _ _ => pes fun B' => (ev_sub rfl rfl (hU hr) (ev_var (pv 2)) (ev_var (pv 3)) (fun _ _ => rfl))))) av_nil))))))
def tm_with_tie : MT := [(6, m_Book_with_tie)]
def m_right : List D → List D → Option (Rv × List D) := runC 8 3 (sSeq (sSet 3 (cFnC m_one_of (aCons (cVar 0) (aCons (cFr (cLst (aCons (cC .non) (aCons (cC (.int 0)) (aCons (cC (.str "book")) (aCons (cTup aNil) (aCons (cFr cDic0) (aCons (cFr (cLst (aCons (cVar 1) aNil))) (aCons (cC (.bl true)) (aCons (cAt tb_names "names" (cVar 1)) aNil)))))))))) aNil))))
  (sSeq (sSet 4 (cFnC m_one_of (aCons (cVar 0) (aCons (cFr (cLst (aCons (cC .non) (aCons (cC (.int 0)) (aCons (cTup aNil) (aCons (cTup (aCons (cC (.int 0)) (aCons (cC (.int 1)) (aCons (cC (.int 0)) aNil)))) (aCons (cFr (cLst (aCons (cC (.int 0)) (aCons (cC (.int 1)) (aCons (cC (.int 0)) aNil))))) (aCons (cC (.str "map")) (aCons (cFr cDic0) (aCons (cTup (aCons (cC (.int 0)) (aCons (cC (.int 1)) (aCons (cC (.int 2)) (aCons (cC (.int 3)) aNil))))) (aCons (cTup (aCons (cC (.int 0)) (aCons (cC .non) (aCons (cC (.int 0)) aNil)))) (aCons (cTup (aCons (cTup (aCons (cC (.int 0)) aNil)) aNil)) aNil)))))))))))) aNil))))
  (sSeq (sSet 5 (cFnC m_one_of (aCons (cVar 0) (aCons (cFr (cLst (aCons (cC .non) (aCons (cC (.int 0)) (aCons (cTup (aCons (cC (.int 3)) aNil)) (aCons (cTup (aCons (cC (.int 0)) (aCons (c2 (fI2 fun i j => .int (i - j)) (cC (.int 0)) (cC (.int 1))) aNil))) (aCons (cFr (cLst (aCons (cC (.int 0)) aNil))) (aCons (cTup (aCons (cC (.bl true)) aNil)) (aCons (cTup (aCons (cC .non) aNil)) (aCons (cC (.str "0")) (aCons (cFr cDic0) (aCons (cTup (aCons (cTup (aCons (cC (.int 0)) aNil)) aNil)) (aCons (cTup (aCons (cC (.int 0)) (aCons (cC (.int 1)) (aCons (cC (.int 2)) (aCons (cC (.int 3)) aNil))))) aNil))))))))))))) aNil))))
  (sSeq (sSet 6 (cFr (cLst (aCons (cMake 6 m_Book_init (aCons (cC (.int 2)) (aCons (cFr (cDisp (aCons (cC (.str "zz")) (aCons (cTup (aCons (cC (.int 2)) (aCons (cTup (aCons (cTup (aCons (cC (.int 0)) (aCons (cC (.int 1)) aNil))) aNil)) aNil))) aNil)))) aNil))) (aCons (cMake 6 m_Book_init (aCons (cC (.int 2)) (aCons (cFr (cDisp (aCons (cC (.str "xor")) (aCons (cTup (aCons (cC (.int 1)) (aCons (cTup (aCons (cTup (aCons (cC (.int 0)) aNil)) aNil)) aNil))) aNil)))) aNil))) (aCons (cMake 6 m_Book_init (aCons (cC (.int 3)) (aCons (cFr cDic0) aNil))) (aCons (cMth tm_with_tie "with_tie" (cVar 2) (aCons (cC (.str "one")) (aCons (cC (.int 1)) (aCons (cTup (aCons (cTup (aCons (cC (.int 0)) aNil)) aNil)) aNil)))) aNil)))))))
  (sSeq (sSet 6 (cFnC m_one_of (aCons (cVar 0) (aCons (cVar 6) aNil))))
  (sSeq (sCel 7 (cLst (aCons (cMet errsL subB hlsL "fine" (cFn m_is_value_map (aCons (cVar 3) (aCons (cVar 3) (aCons (cVar 4) aNil))))) aNil)))
  (sSeq (sExpr (cMl gApp (cVar 7) (aCons (cMet errsL subB hlsL "fine" (cFn m_is_value_map (aCons (cVar 1) (aCons (cVar 3) (aCons (cVar 4) aNil))))) aNil)))
  (sSeq (sExpr (cMl gApp (cVar 7) (aCons (cMet errsL subB hlsL "fine" (cFn m_value_maps (aCons (cVar 3) (aCons (cVar 1) aNil)))) aNil)))
  (sSeq (sExpr (cMl gApp (cVar 7) (aCons (cMet errsL subB hlsL "fine" (cFn m_value_maps (aCons (cVar 1) (aCons (cVar 3) aNil)))) aNil)))
  (sSeq (sExpr (cMl gApp (cVar 7) (aCons (cMet errsL subB hlsL "fine" (cFn m_folds (aCons (cVar 3) aNil))) aNil)))
  (sSeq (sExpr (cMl gApp (cVar 7) (aCons (cMet errsL subB hlsL "fine" (cFn m_is_core (aCons (cVar 3) aNil))) aNil)))
  (sSeq (sExpr (cMl gApp (cVar 7) (aCons (cMet errsL subB hlsL "fine" (cFn m_core (aCons (cVar 3) aNil))) aNil)))
  (sSeq (sExpr (cMl gApp (cVar 7) (aCons (cMet errsL subB hlsL "fine" (cFn m_core_values (aCons (cVar 3) aNil))) aNil)))
  (sSeq (sExpr (cMl gApp (cVar 7) (aCons (cMet errsL subB hlsL "fine" (cFn m_core_fold (aCons (cVar 3) aNil))) aNil)))
  (sSeq (sExpr (cMl gApp (cVar 7) (aCons (cMet errsL subB hlsL "fine" (cFn m_to_core (aCons (cVar 3) (aCons (cVar 5) aNil)))) aNil)))
  (sSeq (sExpr (cMl gApp (cVar 7) (aCons (cMet errsL subB hlsL "fine" (cFn m_from_core (aCons (cVar 3) (aCons (cVar 5) aNil)))) aNil)))
  (sSeq (sIf (c2 (fEq true) (cVar 7) (cFr (c2 fMul (cFr (cLst (aCons (cC (.str "book")) aNil))) (cC (.int 11))))) (sRet (cC (.bl false))) sNil)
  (sSeq (sCel 7 (cLst (aCons (cMet errsL subB hlsL "fine" (cFn m_is_value_map (aCons (cVar 1) (aCons (cVar 6) (aCons (cVar 4) aNil))))) aNil)))
  (sSeq (sExpr (cMl gApp (cVar 7) (aCons (cMet errsL subB hlsL "fine" (cFn m_value_maps (aCons (cVar 6) (aCons (cVar 1) aNil)))) aNil)))
  (sSeq (sExpr (cMl gApp (cVar 7) (aCons (cMet errsL subB hlsL "fine" (cFn m_to_core (aCons (cVar 1) (aCons (cVar 5) aNil)))) aNil)))
  (sSeq (sExpr (cMl gApp (cVar 7) (aCons (cMet errsL subB hlsL "fine" (cFn m_from_core (aCons (cVar 1) (aCons (cVar 5) aNil)))) aNil)))
  (sSeq (sExpr (cMl gApp (cVar 7) (aCons (cMet errsL subB hlsL "fine" (cFn m_from_core (aCons (cVar 1) (aCons (cTup (aCons (cC (.int 2)) aNil)) aNil)))) aNil)))
  (sSeq (sExpr (cMl gApp (cVar 7) (aCons (cMet errsL subB hlsL "fine" (cFn m_is_value_map (aCons (cVar 1) (aCons (cVar 2) (aCons (cVar 4) aNil))))) aNil)))
  (sSeq (sExpr (cMl gApp (cVar 7) (aCons (cMet errsL subB hlsL "fine" (cFn m_to_core (aCons (cVar 1) (aCons (cTup (aCons (cC (.int 2)) (aCons (cC (.int 0)) (aCons (cC (.int 1)) (aCons (cC (.int 2)) aNil))))) aNil)))) aNil)))
  (sSeq (sExpr (cMl gApp (cVar 7) (aCons (cMet errsL subB hlsL "fine" (cFn m_from_core (aCons (cVar 1) (aCons (cTup aNil) aNil)))) aNil)))
  (sRet (c2 (fEq false) (cVar 7) (cFr (c2 fAdd (cFr (c2 fMul (cFr (cLst (aCons (cC (.str "operation")) aNil))) (cC (.int 5)))) (cFr (c2 fMul (cFr (cLst (aCons (cC (.str "fine")) aNil))) (cC (.int 3)))))))))))))))))))))))))))))))))
theorem ok_right {f : Addr} {fd : FuncData} (F : Fun E.K "_law_right" "_law_right" s_right f fd) {gMet cd_right Pt_right : Addr} {cdMet : Value} (hcode : fd.code = .ref cd_right) (GM : GivesMet E mg base gMet cdMet) (C0 : HasT E mg base 9 "from_core" ["book", "values"] (spP E 2 m_from_core)) (C1 : HasT E mg base 10 "to_core" ["book", "values"] (spP E 2 m_to_core)) (C2 : HasT E mg base 6 "is_value_map" ["one", "other", "value"] (spP E 3 m_is_value_map)) (C3 : HasT E mg base 6 "value_maps" ["one", "other"] (spP E 2 m_value_maps)) (C4 : HasT E mg base 9 "core_fold" ["book"] (spP E 1 m_core_fold)) (C5 : HasT E mg base 8 "core_values" ["book"] (spP E 1 m_core_values)) (C6 : HasT E mg base 10 "core" ["book"] (spP E 1 m_core)) (C7 : HasT E mg base 8 "is_core" ["book"] (spP E 1 m_is_core)) (C8 : HasT E mg base 7 "folds" ["book"] (spP E 1 m_folds)) (C9 : HasT E mg base 2 "_law_one_of" ["_law_sack_here", "_law_items"] (spC E 2 m_one_of)) (MD : MetDef E.K mg "_law_met" "_law_action" gMet nm_met (defBody s_met) (defScope s_met) cdMet) (SB : ∀ e ∈ errsL, ∀ k ∈ hlsL.map (·.1), PySem.W.exmOne E.K (.ref (E.ce e)) (.ref (E.ce k)) = some (subB e k)) (TB_right : LamX.TabB base mg cd_right Pt_right) (TM_right : (Pt_right, ("_law_right.<locals>.<lambda>" : Str)) ∈ E.T) (TU_right : ∀ p ∈ E.T, p.1 = Pt_right → p.2 = ("_law_right.<locals>.<lambda>" : Str)) (M_with_tie : MtOk E.P E.w E.K mg base E 10 4 tm_with_tie "with_tie") (I_Book : MkT E mg base 8 6 3 "Book" m_Book_init) (A_names : AtOk E.P E.w E.K mg base E 2 tb_names "names") : FnG E.P E.w E.K mg base (L2.CX E.P E.w) 23 f fd ["_law_sack_here", "_law_path", "_law_two"] (spC E 3 m_right) := by
  obtain ⟨f_from_core, fd_from_core, G_from_core, g_from_core, k_from_core, b_from_core⟩ := C0.ex
  obtain ⟨f_to_core, fd_to_core, G_to_core, g_to_core, k_to_core, b_to_core⟩ := C1.ex
  obtain ⟨f_is_value_map, fd_is_value_map, G_is_value_map, g_is_value_map, k_is_value_map, b_is_value_map⟩ := C2.ex
  obtain ⟨f_value_maps, fd_value_maps, G_value_maps, g_value_maps, k_value_maps, b_value_maps⟩ := C3.ex
  obtain ⟨f_core_fold, fd_core_fold, G_core_fold, g_core_fold, k_core_fold, b_core_fold⟩ := C4.ex
  obtain ⟨f_core_values, fd_core_values, G_core_values, g_core_values, k_core_values, b_core_values⟩ := C5.ex
  obtain ⟨f_core, fd_core, G_core, g_core, k_core, b_core⟩ := C6.ex
  obtain ⟨f_is_core, fd_is_core, G_is_core, g_is_core, k_is_core, b_is_core⟩ := C7.ex
  obtain ⟨f_folds, fd_folds, G_folds, g_folds, k_folds, b_folds⟩ := C8.ex
  obtain ⟨f_one_of, fd_one_of, G_one_of, g_one_of, k_one_of, b_one_of⟩ := C9.ex
  exact ok_CGL (E := E) F sc_right hcode fun cdv A outer s H F0 o Ex hr hgd hcd => (sv_cons (sv_set (ps_set (i := 3) sc_right.nd rfl (.inr rfl) (ev_fnC G_one_of (takes_of rfl rfl rfl rfl) fm_C (hr.mono (by decide)) (by rfl) g_one_of k_one_of b_one_of (av_cons (ev_var (pv 0)) (av_cons (ev_fr (ev_lst (av_cons ev_non (av_cons ev_int (av_cons ev_str (av_cons (ev_tup av_nil) (av_cons (ev_fr ev_dic0) (av_cons (ev_fr (ev_lst (av_cons (ev_var (pv 1)) av_nil))) (av_cons ev_bl (av_cons (ev_at A_names (hr.mono (by decide)) (ev_var (pv 1))) av_nil)))))))))) av_nil)))))
  (sv_cons (sv_set (ps_set (i := 4) sc_right.nd rfl (.inr rfl) (ev_fnC G_one_of (takes_of rfl rfl rfl rfl) fm_C (hr.mono (by decide)) (by rfl) g_one_of k_one_of b_one_of (av_cons (ev_var (pv 0)) (av_cons (ev_fr (ev_lst (av_cons ev_non (av_cons ev_int (av_cons (ev_tup av_nil) (av_cons (ev_tup (av_cons ev_int (av_cons ev_int (av_cons ev_int av_nil)))) (av_cons (ev_fr (ev_lst (av_cons ev_int (av_cons ev_int (av_cons ev_int av_nil))))) (av_cons ev_str (av_cons (ev_fr ev_dic0) (av_cons (ev_tup (av_cons ev_int (av_cons ev_int (av_cons ev_int (av_cons ev_int av_nil))))) (av_cons (ev_tup (av_cons ev_int (av_cons ev_non (av_cons ev_int av_nil)))) (av_cons (ev_tup (av_cons (ev_tup (av_cons ev_int av_nil)) av_nil)) av_nil)))))))))))) av_nil)))))
  (sv_cons (sv_set (ps_set (i := 5) sc_right.nd rfl (.inr rfl) (ev_fnC G_one_of (takes_of rfl rfl rfl rfl) fm_C (hr.mono (by decide)) (by rfl) g_one_of k_one_of b_one_of (av_cons (ev_var (pv 0)) (av_cons (ev_fr (ev_lst (av_cons ev_non (av_cons ev_int (av_cons (ev_tup (av_cons ev_int av_nil)) (av_cons (ev_tup (av_cons ev_int (av_cons (ev_op od_sub ev_int ev_int) av_nil))) (av_cons (ev_fr (ev_lst (av_cons ev_int av_nil))) (av_cons (ev_tup (av_cons ev_bl av_nil)) (av_cons (ev_tup (av_cons ev_non av_nil)) (av_cons ev_str (av_cons (ev_fr ev_dic0) (av_cons (ev_tup (av_cons (ev_tup (av_cons ev_int av_nil)) av_nil)) (av_cons (ev_tup (av_cons ev_int (av_cons ev_int (av_cons ev_int (av_cons ev_int av_nil))))) av_nil))))))))))))) av_nil)))))
  (sv_cons (sv_set (ps_set (i := 6) sc_right.nd rfl (.inr rfl) (ev_fr (ev_lst (av_cons (let ⟨_, _, _, k1, k2, k3⟩ := I_Book.ex; ev_make (c := 6) k1 k2 fm_I (takes_of rfl rfl rfl rfl) (hr.mono (by decide)) (by rfl) I_Book.g k3 (av_cons ev_int (av_cons (ev_fr (ev_disp rfl rfl rfl (hU hr) (ppd_cons (fun B' => ev_str) (fun B' => (ev_tup (av_cons ev_int (av_cons (ev_tup (av_cons (ev_tup (av_cons ev_int (av_cons ev_int av_nil))) av_nil)) av_nil)))) ppd_nil) rfl rfl (by simp) (by decide))) av_nil))) (av_cons (let ⟨_, _, _, k1, k2, k3⟩ := I_Book.ex; ev_make (c := 6) k1 k2 fm_I (takes_of rfl rfl rfl rfl) (hr.mono (by decide)) (by rfl) I_Book.g k3 (av_cons ev_int (av_cons (ev_fr (ev_disp rfl rfl rfl (hU hr) (ppd_cons (fun B' => ev_str) (fun B' => (ev_tup (av_cons ev_int (av_cons (ev_tup (av_cons (ev_tup (av_cons ev_int av_nil)) av_nil)) av_nil)))) ppd_nil) rfl rfl (by simp) (by decide))) av_nil))) (av_cons (let ⟨_, _, _, k1, k2, k3⟩ := I_Book.ex; ev_make (c := 6) k1 k2 fm_I (takes_of rfl rfl rfl rfl) (hr.mono (by decide)) (by rfl) I_Book.g k3 (av_cons ev_int (av_cons (ev_fr ev_dic0) av_nil))) (av_cons (ev_mth M_with_tie (takes_of rfl rfl rfl rfl) (hr.mono (by decide)) (ev_var (pv 2)) (av_cons ev_str (av_cons ev_int (av_cons (ev_tup (av_cons (ev_tup (av_cons ev_int av_nil)) av_nil)) av_nil)))) av_nil))))))))
  (sv_cons (sv_set (ps_set (i := 6) sc_right.nd rfl (.inr rfl) (ev_fnC G_one_of (takes_of rfl rfl rfl rfl) fm_C (hr.mono (by decide)) (by rfl) g_one_of k_one_of b_one_of (av_cons (ev_var (pv 0)) (av_cons (ev_var (pv 6)) av_nil)))))
  (sv_cons (sv_cel (ps_set (i := 7) sc_right.nd rfl (.inl rfl) (ev_lst (av_cons (ev_lam (k := 20) rfl MD (by rfl) (GM _ _ rfl rfl rfl rfl rfl hgd (hr.mono (by decide))) SB TB_right hcd TM_right TU_right (hr.mono (by decide)) (LamX.lamS_by (sc := defScope s_right) (by decide +kernel)) (by rfl) (fun _ _ _ _ _ => by rfl) (fun A outer s H Ex f c' hr B' => (ev_fn G_is_value_map (takes_of rfl rfl rfl rfl) fm_P (hr.mono (by decide)) (by rfl) g_is_value_map k_is_value_map b_is_value_map (av_cons (ev_var (pv 3)) (av_cons (ev_var (pv 3)) (av_cons (ev_var (pv 4)) av_nil)))))) av_nil))))
  (sv_cons (sv_expr (ev_ml PySem.F.slot_list_append PySem.F.type_list_append mt_append ml_app (ev_var (pv 7)) (av_cons (ev_lam (k := 20) rfl MD (by rfl) (GM _ _ rfl rfl rfl rfl rfl hgd (hr.mono (by decide))) SB TB_right hcd TM_right TU_right (hr.mono (by decide)) (LamX.lamS_by (sc := defScope s_right) (by decide +kernel)) (by rfl) (fun _ _ _ _ _ => by rfl) (fun A outer s H Ex f c' hr B' => (ev_fn G_is_value_map (takes_of rfl rfl rfl rfl) fm_P (hr.mono (by decide)) (by rfl) g_is_value_map k_is_value_map b_is_value_map (av_cons (ev_var (pv 1)) (av_cons (ev_var (pv 3)) (av_cons (ev_var (pv 4)) av_nil)))))) av_nil)))
  (sv_cons (sv_expr (ev_ml PySem.F.slot_list_append PySem.F.type_list_append mt_append ml_app (ev_var (pv 7)) (av_cons (ev_lam (k := 20) rfl MD (by rfl) (GM _ _ rfl rfl rfl rfl rfl hgd (hr.mono (by decide))) SB TB_right hcd TM_right TU_right (hr.mono (by decide)) (LamX.lamS_by (sc := defScope s_right) (by decide +kernel)) (by rfl) (fun _ _ _ _ _ => by rfl) (fun A outer s H Ex f c' hr B' => (ev_fn G_value_maps (takes_of rfl rfl rfl rfl) fm_P (hr.mono (by decide)) (by rfl) g_value_maps k_value_maps b_value_maps (av_cons (ev_var (pv 3)) (av_cons (ev_var (pv 1)) av_nil))))) av_nil)))
  (sv_cons (sv_expr (ev_ml PySem.F.slot_list_append PySem.F.type_list_append mt_append ml_app (ev_var (pv 7)) (av_cons (ev_lam (k := 20) rfl MD (by rfl) (GM _ _ rfl rfl rfl rfl rfl hgd (hr.mono (by decide))) SB TB_right hcd TM_right TU_right (hr.mono (by decide)) (LamX.lamS_by (sc := defScope s_right) (by decide +kernel)) (by rfl) (fun _ _ _ _ _ => by rfl) (fun A outer s H Ex f c' hr B' => (ev_fn G_value_maps (takes_of rfl rfl rfl rfl) fm_P (hr.mono (by decide)) (by rfl) g_value_maps k_value_maps b_value_maps (av_cons (ev_var (pv 1)) (av_cons (ev_var (pv 3)) av_nil))))) av_nil)))
  (sv_cons (sv_expr (ev_ml PySem.F.slot_list_append PySem.F.type_list_append mt_append ml_app (ev_var (pv 7)) (av_cons (ev_lam (k := 20) rfl MD (by rfl) (GM _ _ rfl rfl rfl rfl rfl hgd (hr.mono (by decide))) SB TB_right hcd TM_right TU_right (hr.mono (by decide)) (LamX.lamS_by (sc := defScope s_right) (by decide +kernel)) (by rfl) (fun _ _ _ _ _ => by rfl) (fun A outer s H Ex f c' hr B' => (ev_fn G_folds (takes_of rfl rfl rfl rfl) fm_P (hr.mono (by decide)) (by rfl) g_folds k_folds b_folds (av_cons (ev_var (pv 3)) av_nil)))) av_nil)))
  (sv_cons (sv_expr (ev_ml PySem.F.slot_list_append PySem.F.type_list_append mt_append ml_app (ev_var (pv 7)) (av_cons (ev_lam (k := 20) rfl MD (by rfl) (GM _ _ rfl rfl rfl rfl rfl hgd (hr.mono (by decide))) SB TB_right hcd TM_right TU_right (hr.mono (by decide)) (LamX.lamS_by (sc := defScope s_right) (by decide +kernel)) (by rfl) (fun _ _ _ _ _ => by rfl) (fun A outer s H Ex f c' hr B' => (ev_fn G_is_core (takes_of rfl rfl rfl rfl) fm_P (hr.mono (by decide)) (by rfl) g_is_core k_is_core b_is_core (av_cons (ev_var (pv 3)) av_nil)))) av_nil)))
  (sv_cons (sv_expr (ev_ml PySem.F.slot_list_append PySem.F.type_list_append mt_append ml_app (ev_var (pv 7)) (av_cons (ev_lam (k := 20) rfl MD (by rfl) (GM _ _ rfl rfl rfl rfl rfl hgd (hr.mono (by decide))) SB TB_right hcd TM_right TU_right (hr.mono (by decide)) (LamX.lamS_by (sc := defScope s_right) (by decide +kernel)) (by rfl) (fun _ _ _ _ _ => by rfl) (fun A outer s H Ex f c' hr B' => (ev_fn G_core (takes_of rfl rfl rfl rfl) fm_P (hr.mono (by decide)) (by rfl) g_core k_core b_core (av_cons (ev_var (pv 3)) av_nil)))) av_nil)))
  (sv_cons (sv_expr (ev_ml PySem.F.slot_list_append PySem.F.type_list_append mt_append ml_app (ev_var (pv 7)) (av_cons (ev_lam (k := 20) rfl MD (by rfl) (GM _ _ rfl rfl rfl rfl rfl hgd (hr.mono (by decide))) SB TB_right hcd TM_right TU_right (hr.mono (by decide)) (LamX.lamS_by (sc := defScope s_right) (by decide +kernel)) (by rfl) (fun _ _ _ _ _ => by rfl) (fun A outer s H Ex f c' hr B' => (ev_fn G_core_values (takes_of rfl rfl rfl rfl) fm_P (hr.mono (by decide)) (by rfl) g_core_values k_core_values b_core_values (av_cons (ev_var (pv 3)) av_nil)))) av_nil)))
  (sv_cons (sv_expr (ev_ml PySem.F.slot_list_append PySem.F.type_list_append mt_append ml_app (ev_var (pv 7)) (av_cons (ev_lam (k := 20) rfl MD (by rfl) (GM _ _ rfl rfl rfl rfl rfl hgd (hr.mono (by decide))) SB TB_right hcd TM_right TU_right (hr.mono (by decide)) (LamX.lamS_by (sc := defScope s_right) (by decide +kernel)) (by rfl) (fun _ _ _ _ _ => by rfl) (fun A outer s H Ex f c' hr B' => (ev_fn G_core_fold (takes_of rfl rfl rfl rfl) fm_P (hr.mono (by decide)) (by rfl) g_core_fold k_core_fold b_core_fold (av_cons (ev_var (pv 3)) av_nil)))) av_nil)))
  (sv_cons (sv_expr (ev_ml PySem.F.slot_list_append PySem.F.type_list_append mt_append ml_app (ev_var (pv 7)) (av_cons (ev_lam (k := 20) rfl MD (by rfl) (GM _ _ rfl rfl rfl rfl rfl hgd (hr.mono (by decide))) SB TB_right hcd TM_right TU_right (hr.mono (by decide)) (LamX.lamS_by (sc := defScope s_right) (by decide +kernel)) (by rfl) (fun _ _ _ _ _ => by rfl) (fun A outer s H Ex f c' hr B' => (ev_fn G_to_core (takes_of rfl rfl rfl rfl) fm_P (hr.mono (by decide)) (by rfl) g_to_core k_to_core b_to_core (av_cons (ev_var (pv 3)) (av_cons (ev_var (pv 5)) av_nil))))) av_nil)))
  (sv_cons (sv_expr (ev_ml PySem.F.slot_list_append PySem.F.type_list_append mt_append ml_app (ev_var (pv 7)) (av_cons (ev_lam (k := 20) rfl MD (by rfl) (GM _ _ rfl rfl rfl rfl rfl hgd (hr.mono (by decide))) SB TB_right hcd TM_right TU_right (hr.mono (by decide)) (LamX.lamS_by (sc := defScope s_right) (by decide +kernel)) (by rfl) (fun _ _ _ _ _ => by rfl) (fun A outer s H Ex f c' hr B' => (ev_fn G_from_core (takes_of rfl rfl rfl rfl) fm_P (hr.mono (by decide)) (by rfl) g_from_core k_from_core b_from_core (av_cons (ev_var (pv 3)) (av_cons (ev_var (pv 5)) av_nil))))) av_nil)))
  (sv_cons (sv_if (tv_cmp (od_ne rfl (hU64 hr)) (ev_var (pv 7)) (ev_fr (ev_op od_mul (ev_fr (ev_lst (av_cons ev_str av_nil))) ev_int)) (nomark _)) (sv_one (sv_ret ev_bl)) sv_nil)
  (sv_cons (sv_cel (ps_set (i := 7) sc_right.nd rfl (.inl rfl) (ev_lst (av_cons (ev_lam (k := 20) rfl MD (by rfl) (GM _ _ rfl rfl rfl rfl rfl hgd (hr.mono (by decide))) SB TB_right hcd TM_right TU_right (hr.mono (by decide)) (LamX.lamS_by (sc := defScope s_right) (by decide +kernel)) (by rfl) (fun _ _ _ _ _ => by rfl) (fun A outer s H Ex f c' hr B' => (ev_fn G_is_value_map (takes_of rfl rfl rfl rfl) fm_P (hr.mono (by decide)) (by rfl) g_is_value_map k_is_value_map b_is_value_map (av_cons (ev_var (pv 1)) (av_cons (ev_var (pv 6)) (av_cons (ev_var (pv 4)) av_nil)))))) av_nil))))
  (sv_cons (sv_expr (ev_ml PySem.F.slot_list_append PySem.F.type_list_append mt_append ml_app (ev_var (pv 7)) (av_cons (ev_lam (k := 20) rfl MD (by rfl) (GM _ _ rfl rfl rfl rfl rfl hgd (hr.mono (by decide))) SB TB_right hcd TM_right TU_right (hr.mono (by decide)) (LamX.lamS_by (sc := defScope s_right) (by decide +kernel)) (by rfl) (fun _ _ _ _ _ => by rfl) (fun A outer s H Ex f c' hr B' => (ev_fn G_value_maps (takes_of rfl rfl rfl rfl) fm_P (hr.mono (by decide)) (by rfl) g_value_maps k_value_maps b_value_maps (av_cons (ev_var (pv 6)) (av_cons (ev_var (pv 1)) av_nil))))) av_nil)))
  (sv_cons (sv_expr (ev_ml PySem.F.slot_list_append PySem.F.type_list_append mt_append ml_app (ev_var (pv 7)) (av_cons (ev_lam (k := 20) rfl MD (by rfl) (GM _ _ rfl rfl rfl rfl rfl hgd (hr.mono (by decide))) SB TB_right hcd TM_right TU_right (hr.mono (by decide)) (LamX.lamS_by (sc := defScope s_right) (by decide +kernel)) (by rfl) (fun _ _ _ _ _ => by rfl) (fun A outer s H Ex f c' hr B' => (ev_fn G_to_core (takes_of rfl rfl rfl rfl) fm_P (hr.mono (by decide)) (by rfl) g_to_core k_to_core b_to_core (av_cons (ev_var (pv 1)) (av_cons (ev_var (pv 5)) av_nil))))) av_nil)))
  (sv_cons (sv_expr (ev_ml PySem.F.slot_list_append PySem.F.type_list_append mt_append ml_app (ev_var (pv 7)) (av_cons (ev_lam (k := 20) rfl MD (by rfl) (GM _ _ rfl rfl rfl rfl rfl hgd (hr.mono (by decide))) SB TB_right hcd TM_right TU_right (hr.mono (by decide)) (LamX.lamS_by (sc := defScope s_right) (by decide +kernel)) (by rfl) (fun _ _ _ _ _ => by rfl) (fun A outer s H Ex f c' hr B' => (ev_fn G_from_core (takes_of rfl rfl rfl rfl) fm_P (hr.mono (by decide)) (by rfl) g_from_core k_from_core b_from_core (av_cons (ev_var (pv 1)) (av_cons (ev_var (pv 5)) av_nil))))) av_nil)))
  (sv_cons (sv_expr (ev_ml PySem.F.slot_list_append PySem.F.type_list_append mt_append ml_app (ev_var (pv 7)) (av_cons (ev_lam (k := 20) rfl MD (by rfl) (GM _ _ rfl rfl rfl rfl rfl hgd (hr.mono (by decide))) SB TB_right hcd TM_right TU_right (hr.mono (by decide)) (LamX.lamS_by (sc := defScope s_right) (by decide +kernel)) (by rfl) (fun _ _ _ _ _ => by rfl) (fun A outer s H Ex f c' hr B' => (ev_fn G_from_core (takes_of rfl rfl rfl rfl) fm_P (hr.mono (by decide)) (by rfl) g_from_core k_from_core b_from_core (av_cons (ev_var (pv 1)) (av_cons (ev_tup (av_cons ev_int av_nil)) av_nil))))) av_nil)))
  (sv_cons (sv_expr (ev_ml PySem.F.slot_list_append PySem.F.type_list_append mt_append ml_app (ev_var (pv 7)) (av_cons (ev_lam (k := 20) rfl MD (by rfl) (GM _ _ rfl rfl rfl rfl rfl hgd (hr.mono (by decide))) SB TB_right hcd TM_right TU_right (hr.mono (by decide)) (LamX.lamS_by (sc := defScope s_right) (by decide +kernel)) (by rfl) (fun _ _ _ _ _ => by rfl) (fun A outer s H Ex f c' hr B' => (ev_fn G_is_value_map (takes_of rfl rfl rfl rfl) fm_P (hr.mono (by decide)) (by rfl) g_is_value_map k_is_value_map b_is_value_map (av_cons (ev_var (pv 1)) (av_cons (ev_var (pv 2)) (av_cons (ev_var (pv 4)) av_nil)))))) av_nil)))
  (sv_cons (sv_expr (ev_ml PySem.F.slot_list_append PySem.F.type_list_append mt_append ml_app (ev_var (pv 7)) (av_cons (ev_lam (k := 20) rfl MD (by rfl) (GM _ _ rfl rfl rfl rfl rfl hgd (hr.mono (by decide))) SB TB_right hcd TM_right TU_right (hr.mono (by decide)) (LamX.lamS_by (sc := defScope s_right) (by decide +kernel)) (by rfl) (fun _ _ _ _ _ => by rfl) (fun A outer s H Ex f c' hr B' => (ev_fn G_to_core (takes_of rfl rfl rfl rfl) fm_P (hr.mono (by decide)) (by rfl) g_to_core k_to_core b_to_core (av_cons (ev_var (pv 1)) (av_cons (ev_tup (av_cons ev_int (av_cons ev_int (av_cons ev_int (av_cons ev_int av_nil))))) av_nil))))) av_nil)))
  (sv_cons (sv_expr (ev_ml PySem.F.slot_list_append PySem.F.type_list_append mt_append ml_app (ev_var (pv 7)) (av_cons (ev_lam (k := 20) rfl MD (by rfl) (GM _ _ rfl rfl rfl rfl rfl hgd (hr.mono (by decide))) SB TB_right hcd TM_right TU_right (hr.mono (by decide)) (LamX.lamS_by (sc := defScope s_right) (by decide +kernel)) (by rfl) (fun _ _ _ _ _ => by rfl) (fun A outer s H Ex f c' hr B' => (ev_fn G_from_core (takes_of rfl rfl rfl rfl) fm_P (hr.mono (by decide)) (by rfl) g_from_core k_from_core b_from_core (av_cons (ev_var (pv 1)) (av_cons (ev_tup av_nil) av_nil))))) av_nil)))
  (sv_one (sv_ret (ev_cmp (od_eq rfl (hU64 hr)) (ev_var (pv 7)) (ev_fr (ev_op (od_add rfl) (ev_fr (ev_op od_mul (ev_fr (ev_lst (av_cons ev_str av_nil))) ev_int)) (ev_fr (ev_op od_mul (ev_fr (ev_lst (av_cons ev_str av_nil))) ev_int)))) (nomark _)))))))))))))))))))))))))))))
def m_law : List D → Option Rv := runP 6 1 (sSeq (sPar 1 2 (aCons (cMake 6 m_Book_init (aCons (cC (.int 3)) (aCons (cFr (cDisp (aCons (cC (.str "xor")) (aCons (cTup (aCons (cC (.int 2)) (aCons (cTup (aCons (cTup (aCons (cC (.int 0)) (aCons (cC (.int 1)) aNil))) (aCons (cTup (aCons (cC (.int 1)) (aCons (cC (.int 0)) aNil))) (aCons (cTup (aCons (cC (.int 1)) (aCons (cC (.int 2)) aNil))) (aCons (cTup (aCons (cC (.int 2)) (aCons (cC (.int 1)) aNil))) aNil))))) aNil))) aNil)))) aNil))) (aCons (cMake 6 m_Book_init (aCons (cC (.int 2)) (aCons (cFr (cDisp (aCons (cC (.str "xor")) (aCons (cTup (aCons (cC (.int 2)) (aCons (cTup (aCons (cTup (aCons (cC (.int 0)) (aCons (cC (.int 1)) aNil))) (aCons (cTup (aCons (cC (.int 1)) (aCons (cC (.int 0)) aNil))) aNil))) aNil))) aNil)))) aNil))) aNil)))
  (sSeq (sFor (iRg1 (cCall fMax (aCons (cC (.int 1)) (aCons (cCall fMin2 (aCons (cC (.int 8)) (aCons (cCall fLen (aCons (cVar 0) aNil)) aNil))) aNil)))) (tName 3) (sSeq (sCel 4 (cFnN m_sack (aCons (cVar 0) (aCons (cVar 3) aNil))))
  (sFor (iRg1 (cC (.int 3))) (tName 5) (sIf (cNot (cFnC m_right (aCons (cVar 4) (aCons (cVar 1) (aCons (cVar 2) aNil))))) (sRet (cC (.bl false))) sNil))))
  (sRet (cAnd (c2 (fEq false) (cFn m_value_maps (aCons (cVar 1) (aCons (cVar 2) aNil))) (cTup (aCons (cTup (aCons (cC (.int 0)) (aCons (cC (.int 1)) (aCons (cC (.int 0)) aNil)))) (aCons (cTup (aCons (cC (.int 1)) (aCons (cC (.int 0)) (aCons (cC (.int 1)) aNil)))) aNil)))) (cAnd (c2 (fEq false) (cFn m_core_fold (aCons (cVar 2) aNil)) (cTup (aCons (cC (.int 0)) (aCons (cC (.int 1)) aNil)))) (cFn m_is_core (aCons (cVar 2) aNil)))))))
theorem ok_law {f : Addr} {fd : FuncData} (F : Fun E.K "law" "law" s_law f fd) (B : Blt mg) (C0 : HasT E mg base 8 "is_core" ["book"] (spP E 1 m_is_core)) (C1 : HasT E mg base 9 "core_fold" ["book"] (spP E 1 m_core_fold)) (C2 : HasT E mg base 6 "value_maps" ["one", "other"] (spP E 2 m_value_maps)) (C3 : HasG E mg base 23 "_law_right" ["_law_sack_here", "_law_path", "_law_two"] (spC E 3 m_right)) (C4 : HasT E mg base 1 "_law_sack" ["_law_script", "_law_at"] (spN E 2 m_sack)) (I_Book : MkT E mg base 8 6 3 "Book" m_Book_init) : FnG E.P E.w E.K mg base (L2.CX E.P E.w) 24 f fd ["_law_script"] (spP E 1 m_law) := by
  obtain ⟨f_is_core, fd_is_core, G_is_core, g_is_core, k_is_core, b_is_core⟩ := C0.ex
  obtain ⟨f_core_fold, fd_core_fold, G_core_fold, g_core_fold, k_core_fold, b_core_fold⟩ := C1.ex
  obtain ⟨f_value_maps, fd_value_maps, G_value_maps, g_value_maps, k_value_maps, b_value_maps⟩ := C2.ex
  obtain ⟨f_right, fd_right, G_right, g_right, k_right, b_right⟩ := C3.ex
  obtain ⟨f_sack, fd_sack, G_sack, g_sack, k_sack, b_sack⟩ := C4.ex
  exact ok_G (E := E) F sc_law fun cdv A outer s H F0 Ex hr hgd => (sv_cons (sv_par (i := 1) (j := 2) rfl sc_law.nd rfl rfl (by decide) rfl rfl (av_cons (let ⟨_, _, _, k1, k2, k3⟩ := I_Book.ex; ev_make (c := 6) k1 k2 fm_I (takes_of rfl rfl rfl rfl) (hr.mono (by decide)) (by rfl) I_Book.g k3 (av_cons ev_int (av_cons (ev_fr (ev_disp rfl rfl rfl (hU hr) (ppd_cons (fun B' => ev_str) (fun B' => (ev_tup (av_cons ev_int (av_cons (ev_tup (av_cons (ev_tup (av_cons ev_int (av_cons ev_int av_nil))) (av_cons (ev_tup (av_cons ev_int (av_cons ev_int av_nil))) (av_cons (ev_tup (av_cons ev_int (av_cons ev_int av_nil))) (av_cons (ev_tup (av_cons ev_int (av_cons ev_int av_nil))) av_nil))))) av_nil)))) ppd_nil) rfl rfl (by simp) (by decide))) av_nil))) (av_cons (let ⟨_, _, _, k1, k2, k3⟩ := I_Book.ex; ev_make (c := 6) k1 k2 fm_I (takes_of rfl rfl rfl rfl) (hr.mono (by decide)) (by rfl) I_Book.g k3 (av_cons ev_int (av_cons (ev_fr (ev_disp rfl rfl rfl (hU hr) (ppd_cons (fun B' => ev_str) (fun B' => (ev_tup (av_cons ev_int (av_cons (ev_tup (av_cons (ev_tup (av_cons ev_int (av_cons ev_int av_nil))) (av_cons (ev_tup (av_cons ev_int (av_cons ev_int av_nil))) av_nil))) av_nil)))) ppd_nil) rfl rfl (by simp) (by decide))) av_nil))) av_nil)) (by rfl))
  (sv_cons (sv_for PassesOwn.leaving rfl (iv_rng1 (by rfl) B.range_ (ev_callB (cd_max rfl) (by rfl) B.max_ (by decide +kernel) (av_cons ev_int (av_cons (ev_callB (cd_min2 rfl (hU64 hr) rfl) (by rfl) B.min_ (by decide +kernel) (av_cons ev_int (av_cons (ev_callB (cd_len rfl rfl) (by rfl) B.len_ (by decide +kernel) (av_cons (ev_var (pv 0)) av_nil)) av_nil))) av_nil)))) (pg_name (i := 3) sc_law.nd rfl (.inl rfl)) tg_name (sv_cons (sv_cel (ps_set (i := 4) sc_law.nd rfl (.inl rfl) (ev_fnN G_sack (takes_of rfl rfl rfl rfl) fm_N (hr.mono (by decide)) (by rfl) g_sack k_sack b_sack (av_cons (ev_var (pv 0)) (av_cons (ev_var (pv 3)) av_nil)))))
  (sv_one (sv_for PassesOwn.leaving rfl (iv_rng1 (by rfl) B.range_ ev_int) (pg_name (i := 5) sc_law.nd rfl (.inl rfl)) tg_name (sv_one (sv_if (tv_not (tv_val (ev_fnCG G_right (takes_of rfl rfl rfl rfl) fm_C (hr.mono (by decide)) hgd (by rfl) g_right k_right b_right (av_cons (ev_var (pv 4)) (av_cons (ev_var (pv 1)) (av_cons (ev_var (pv 2)) av_nil)))))) (sv_one (sv_ret ev_bl)) sv_nil))))))
  (sv_one (sv_ret (ev_and (ev_cmp (od_eq rfl (hU64 hr)) (ev_fn G_value_maps (takes_of rfl rfl rfl rfl) fm_P (hr.mono (by decide)) (by rfl) g_value_maps k_value_maps b_value_maps (av_cons (ev_var (pv 1)) (av_cons (ev_var (pv 2)) av_nil))) (ev_tup (av_cons (ev_tup (av_cons ev_int (av_cons ev_int (av_cons ev_int av_nil)))) (av_cons (ev_tup (av_cons ev_int (av_cons ev_int (av_cons ev_int av_nil)))) av_nil))) (nomark _)) (ev_and (ev_cmp (od_eq rfl (hU64 hr)) (ev_fn G_core_fold (takes_of rfl rfl rfl rfl) fm_P (hr.mono (by decide)) (by rfl) g_core_fold k_core_fold b_core_fold (av_cons (ev_var (pv 2)) av_nil)) (ev_tup (av_cons ev_int (av_cons ev_int av_nil))) (nomark _)) (ev_one (ev_fn G_is_core (takes_of rfl rfl rfl rfl) fm_P (hr.mono (by decide)) (by rfl) g_is_core k_is_core b_is_core (av_cons (ev_var (pv 2)) av_nil)))))))))
end
end K51
set_option Elab.async false
set_option linter.all false
set_option maxRecDepth 100000
set_option maxHeartbeats 1000000
/-! Ga: computations of any law: chance, rules of evaluation. -/
namespace TL
open PySem
def gGrab : List D → List D → Option (Rv × List D) := runC 5 2 (sSeq (sIf (c2 (fI2 fun i j => .bl (decide (j < i))) (c2 fSub (cVar 0) (cC (.int 0))) (cC (.int 0))) (sSeq (sSet 2 (c2 (fI2c (fun _ j => decide (0 < j)) fun i j => .int (i % j)) (cCall fInt (aCons (c2 fSub (cVar 0) (cC (.int 0))) aNil)) (cVar 1)))
  (sSeq (sPut (c2 (fI2c (fun _ j => decide (0 < j ∧ j < 1073741824)) fun i j => .int (i / j)) (c2 fSub (cVar 0) (cC (.int 0))) (cVar 1)) (cVar 0) (cC (.int 0)))
  (sRet (cVar 2)))) sNil)
  (sSeq (sPut (c2 fAdd (c2 fSub (cVar 0) (cC (.int 2))) (cC (.int 1))) (cVar 0) (cC (.int 2)))
  (sSeq (sSet 3 (c2 (fI2c (fun _ j => decide (0 < j)) fun i j => .int (i % j)) (cCall fInt (aCons (c2 fAdd (c2 fSub (cVar 0) (cC (.int 1))) (c2 fMul (cC (.int 1000427)) (c2 fSub (cVar 0) (cC (.int 2))))) aNil)) (cC (.int 2305843009213693951))))
  (sSeq (sSet 4 (c2 fAdd (c2 fMul (c2 (fI2c (fun _ j => decide (0 < j)) fun i j => .int (i % j)) (cCall fInt (aCons (c2 fMul (cVar 3) (cVar 3)) aNil)) (cC (.int 2305843009213693921))) (cVar 3)) (c2 fMul (cC (.int 9103)) (c2 fSub (cVar 0) (cC (.int 2))))))
  (sRet (c2 (fI2c (fun _ j => decide (0 < j)) fun i j => .int (i % j)) (cCall fInt (aCons (c2 (fI2c (fun _ j => decide (0 < j ∧ j < 1073741824)) fun i j => .int (i / j)) (c2 (fI2c (fun _ j => decide (0 < j)) fun i j => .int (i % j)) (cCall fInt (aCons (cVar 4) aNil)) (cC (.int 2305843009213693907))) (cC (.int 16384))) aNil)) (cVar 1)))))))
def gOne : List D → List D → Option (Rv × List D) := runC 2 2 (sRet (c2 fSub (cVar 1) (cFnC gGrab (aCons (cVar 0) (aCons (cCall fLen (aCons (cVar 1) aNil)) aNil)))))
def gSack : List D → Option Rn := runN 5 2 (nSeq (sSet 2 (cIf (c2 fLt (cVar 1) (cCall fLen (aCons (cVar 0) aNil))) (c2 fSub (cVar 0) (cVar 1)) (c2 fAdd (c2 fMul (cC (.int 67)) (cVar 1)) (cC (.int 37)))))
  (nSeq (sSet 3 (c2 (fI2c (fun _ j => decide (0 < j)) fun i j => .int (i % j)) (cCall fInt (aCons (cCall fAbs (aCons (cVar 2) aNil)) aNil)) (c2 (fI2c powOk fun i j => .int (i ^ j.toNat)) (c2 (fI2c powOk fun i j => .int (i ^ j.toNat)) (cC (.int 10)) (cC (.int 47))) (cC (.int 13)))))
  (nSeq (sSet 4 (c2 fAdd (c2 fAdd (c2 fAdd (c2 fMul (c2 (fI2c (fun _ j => decide (0 < j)) fun i j => .int (i % j)) (cCall fInt (aCons (cVar 3) aNil)) (cC (.int 2147483237))) (cC (.int 96293))) (c2 fMul (cC (.int 8123)) (cVar 1))) (c2 fMul (cC (.int 47)) (cCall fInt (aCons (c2 fLt (cVar 2) (cC (.int 0))) aNil)))) (cC (.int 73))))
  (nRet (cLst (aCons (cCall fMax (aCons (cC (.int 0)) (aCons (c2 (fI2 fun i j => .int (i - j)) (cVar 3) (c2 (fI2c powOk fun i j => .int (i ^ j.toNat)) (cC (.int 10)) (cC (.int 18)))) aNil))) (aCons (c2 (fI2c (fun _ j => decide (0 < j)) fun i j => .int (i % j)) (cCall fInt (aCons (cVar 4) aNil)) (cC (.int 2305843009213693907))) (aCons (cC (.int 0)) aNil))))))))
theorem grab_ok (a b c t : Int) (h1 : 0 < t) (h2 : t < 1073741824) : ∃ i a' b' c' : Int, 0 ≤ i ∧ i < t ∧ gGrab [.int a, .int b, .int c] [.int t] = some (.ok (.int i), [.int a', .int b', .int c']) := by
  have d1 : decide (0 < t) = true := decide_eq_true h1
  have d2 : decide (0 < t ∧ t < 1073741824) = true := decide_eq_true ⟨h1, h2⟩
  by_cases h : 0 < a
  · have d : decide (0 < a) = true := decide_eq_true h
    refine ⟨a % t, a / t, b, c, Int.emod_nonneg _ (by omega), Int.emod_lt_of_pos _ h1, ?_⟩
    simp [gGrab, runC, outC, sSeq, sIf, sSet, sPut, sRet, rtS, sv, onS, c2, bv, cVar, cC, cCall, ba, aCons, aNil, slotsC, fI2, fI2c, fSub, fInt, L2.atI, L2.ixN, sOf, out, Rd1.rs, Cell.d, put3, putC, fnC, peek, peeks, d, d1, d2, h, h1, h2]
  · have d : decide (0 < a) = false := decide_eq_false h
    have e1 : (fMul (.int 1000427) (.int (c + 1))) = some (.v (.int (1000427 * (c + 1)))) := by simp [fMul]
    obtain ⟨x, hx⟩ : ∃ x, x = (b + 1000427 * (c + 1)) % 2305843009213693951 := ⟨_, rfl⟩
    have bx : -(2 ^ 64) < x ∧ x < 2 ^ 64 := by
      have h1 := Int.emod_nonneg (b + 1000427 * (c + 1)) (b := 2305843009213693951) (by decide)
      have h2 := Int.emod_lt_of_pos (b + 1000427 * (c + 1)) (b := 2305843009213693951) (by decide)
      rw [← hx] at h1 h2
      omega
    have e2 : (fMul (.int x) (.int x)) = some (.v (.int (x * x))) := if_pos (.inl bx)
    have e3 : (fMul (.int (x * x % 2305843009213693921)) (.int x)) = some (.v (.int (x * x % 2305843009213693921 * x))) := if_pos (.inr bx)
    have e4 : (fMul (.int 9103) (.int (c + 1))) = some (.v (.int (9103 * (c + 1)))) := by simp [fMul]
    refine ⟨(x * x % 2305843009213693921 * x + 9103 * (c + 1)) % 2305843009213693907 / 16384 % t, a, b, c + 1, Int.emod_nonneg _ (by omega), Int.emod_lt_of_pos _ h1, ?_⟩
    simp [gGrab, runC, outC, sSeq, sIf, sSet, sPut, sRet, sNil, rtS, sv, onS, c2, bv, cVar, cC, cCall, ba, aCons, aNil, slotsC, fI2, fI2c, fSub, fInt, fAdd, e1, e2, e3, e4, ← hx, L2.atI, L2.ixN, sOf, out, Rd1.rs, Cell.d, put3, putC, peek, peeks, d, d1, d2, h, h1, h2]
theorem one_ok (a b c : Int) (l : List D) (h1 : 0 < l.length) (h2 : l.length < 1073741824) : ∃ d ∈ l, ∃ a' b' c' : Int, gOne [.int a, .int b, .int c] [.lst l] = some (.ok d, [.int a', .int b', .int c']) := by
  obtain ⟨i, a', b', c', p1, p2, g⟩ := grab_ok a b c l.length (by omega) (by omega)
  obtain ⟨n, rfl⟩ := Int.eq_ofNat_of_zero_le p1
  have hn : n < l.length := by omega
  have e : L2.atI l (n : Int) = some l[n] := by
    unfold L2.atI L2.ixN
    rw [if_pos p1, if_pos p2]
    simp [hn]
  refine ⟨l[n], List.getElem_mem hn, a', b', c', ?_⟩
  simp [gOne, runC, outC, sRet, rtS, sv, c2, bv, cVar, cFnC, fnC, cCall, fLen, ba, aCons, aNil, slotsC, fSub, e, g, sOf, out, Rd1.rs, Rv.rs, Cell.d, peek, peeks, vals]
theorem lt_int (i j : Int) : fLt (.int i) (.int j) = some (.v (.bl (decide (i < j)))) := by
  simp [fLt, toP, okL, Gd.ltD, Gd.okD, PyData.depth]
theorem pow47 : powOk 10 47 = true ∧ powOk ((10 : Int) ^ 47) 13 = true ∧ powOk 10 18 = true := by decide +kernel
section
variable {G : Sl} {C C1 C2 C3 : Cs} {a b c : CE} {x y z : D}
theorem v_c2 {f : D → D → Option Rd1} (ha : a G C = some (.v x, C1)) (hb : b G C1 = some (.v y, C2)) (hf : f x y = some (.v z)) : c2 f a b G C = some (.v z, C2) := by
  simp [c2, bv, ha, hb, out, peek, hf, Rd1.rs]
theorem v_call1 {f : List D → Option Rd1} (ha : a G C = some (.v x, C1)) (hf : f [x] = some (.v z)) : cCall f (aCons a aNil) G C = some (.v z, C1) := by
  simp [cCall, aCons, aNil, ba, ha, out, peek, peeks, vals, hf, Rd1.rs]
theorem v_call2 {f : List D → Option Rd1} (ha : a G C = some (.v x, C1)) (hb : b G C1 = some (.v y, C2)) (hf : f [x, y] = some (.v z)) : cCall f (aCons a (aCons b aNil)) G C = some (.v z, C2) := by
  simp [cCall, aCons, aNil, ba, ha, hb, out, peek, peeks, vals, hf, Rd1.rs]
theorem v_var {i : Nat} (h : G[i]? = some (some (.v x))) : cVar i G C = some (.v x, C) := by
  simp [cVar, sOf, h]
theorem n_set {i : Nat} {r : CN} (h : c G C = some (.v x, C1)) : nSeq (sSet i c) r G C = r (G.set i (some (.v x))) C1 := by
  simp [nSeq, sSet, sv, h]
theorem n_lst3 (ha : a G C = some (.v x, C1)) (hb : b G C1 = some (.v y, C2)) (hc : c G C2 = some (.v z, C3)) : nRet (cLst (aCons a (aCons b (aCons c aNil)))) G C = some (.ok [x, y, z], C3) := by
  simp [nRet, cLst, aCons, aNil, ba, ha, hb, hc, vals, out, Rd1.rs, few]
end
theorem sack_ok (ns : List Int) (k : Nat) : ∃ a b c : Int, gSack [.scr ns, .int k] = some (.ok [.int a, .int b, .int c]) := by
  obtain ⟨w1, w2, w3⟩ := pow47
  have pos : (0 : Int) < ((10 : Int) ^ 47) ^ 13 := by decide +kernel
  obtain ⟨cell, hc⟩ : ∃ cell : Int, cIf (c2 fLt (cVar 1) (cCall fLen (aCons (cVar 0) aNil))) (c2 fSub (cVar 0) (cVar 1)) (c2 fAdd (c2 fMul (cC (.int 67)) (cVar 1)) (cC (.int 37))) (slots 5 [.scr ns, .int k]) [] = some (.v (.int cell), []) := by
    by_cases h : k < ns.length
    · refine ⟨ns[k], ?_⟩
      have e : L2.atI (ns.map D.int) (k : Int) = some (.int ns[k]) := by
        unfold L2.atI L2.ixN
        rw [if_pos (by omega), if_pos (by rw [List.length_map]; omega)]
        simp [h]
      simp [cIf, c2, bv, cVar, cCall, fLen, ba, aCons, aNil, slots, fSub, lt_int, e, sOf, out, Rd1.rs, Cell.d, peek, peeks, vals, onB, h]
    · refine ⟨67 * k + 37, ?_⟩
      simp [cIf, c2, bv, cVar, cC, cCall, fLen, ba, aCons, aNil, slots, fAdd, fMul, lt_int, sOf, out, Rd1.rs, Cell.d, peek, peeks, vals, onB, h]
  have b1 : ∀ G C, c2 (fI2c powOk fun i j => .int (i ^ j.toNat)) (c2 (fI2c powOk fun i j => .int (i ^ j.toNat)) (cC (.int 10)) (cC (.int 47))) (cC (.int 13)) G C = some (.v (.int (((10 : Int) ^ 47) ^ 13)), C) := fun G C => by kernel_rfl
  have b2 : ∀ G C, c2 (fI2c powOk fun i j => .int (i ^ j.toNat)) (cC (.int 10)) (cC (.int 18)) G C = some (.v (.int ((10 : Int) ^ 18)), C) := fun G C => by kernel_rfl
  generalize ((10 : Int) ^ 47) ^ 13 = M at b1 pos
  generalize (10 : Int) ^ 18 = N at b2
  have pm : ∀ i : Int, fI2c (fun _ j => decide (0 < j)) (fun i j => .int (i % j)) (.int i) (.int M) = some (.v (.int (i % M))) := fun i => by simp [fI2c, pos]
  have mul : ∀ i j : Int, (-(2 ^ 64) < i ∧ i < 2 ^ 64) ∨ (-(2 ^ 64) < j ∧ j < 2 ^ 64) → fMul (.int i) (.int j) = some (.v (.int (i * j))) := fun i j h => by unfold fMul; exact if_pos h
  apply Exists.intro
  apply Exists.intro
  apply Exists.intro
  show Option.map _ (nSeq _ _ _ _) = _
  rw [n_set hc, n_set (v_c2 (v_call1 (v_call1 (v_var rfl) rfl) rfl) (b1 _ _) (pm _)),
    n_set (v_c2 (v_c2 (v_c2 (v_c2 (v_c2 (v_call1 (v_var rfl) rfl) rfl rfl) rfl (mul _ _ (.inr (by decide)))) (v_c2 rfl (v_var rfl) (mul _ _ (.inl (by decide)))) rfl) (v_c2 rfl (v_call1 (v_c2 (v_var rfl) rfl (lt_int _ _)) rfl) (mul _ _ (.inl (by decide)))) rfl) rfl rfl),
    n_lst3 (v_call2 rfl (v_c2 (v_var rfl) (b2 _ _) rfl) rfl) (v_c2 (v_call1 (v_var rfl) rfl) rfl rfl) rfl]
  rfl

def told (errsL : List Nat) (subB : Nat → Nat → Bool) (hlsL : List (Nat × Hr)) (fine : Str) : Option Rv → Option Str
  | some (.ex (.mk e pl)) => if e ∈ errsL then pickD subB hlsL e pl else none
  | some (.ok _) => some fine
  | none => none
section
variable {G : Sl} {C C1 C2 : Cs} {c t : CE} {r a : CS} {x y : D} {l S S' xs' : List D} {d : D} {margs ca : CA} {xs : List Sv} {ds : List D} {m : List D → Option Rv} {s : Str} {errsL : List Nat} {subB : Nat → Nat → Bool} {hlsL : List (Nat × Hr)} {fine : Str}
theorem v_met (ha : ca G C = some (.ok xs, C1)) (hv : vals xs = some ds) (h : told errsL subB hlsL fine (m ds) = some s) : cMet errsL subB hlsL fine (cFn m ca) G C = some (.v (.str s), C1) := by
  unfold cMet cFn
  rw [ha]
  simp only [ba, hv, Option.bind_some]
  unfold told at h
  cases q : m ds with
  | none => rw [q] at h; cases h
  | some r =>
    rw [q] at h
    cases r with
    | ok d => cases h; rfl
    | ex e =>
      obtain ⟨e, pl⟩ := e
      simp only [Option.map_some, Rv.rs]
      simp only at h
      by_cases he : e ∈ errsL
      · rw [if_pos he] at h ⊢
        rw [h]
        rfl
      · rw [if_neg he] at h; cases h
theorem v_met0 (ha : ca G C = some (.ok xs, C)) (hv : vals xs = some ds) (h : told errsL subB hlsL fine (m ds) = some s) : cMet errsL subB hlsL fine (cFn m ca) G C = some (.v (.str s), C) := v_met ha hv h
theorem v_c2p {k : Nat} {z : D} {f : D → D → Option Rd1} {a b : CE} (ha : a G C = some (.c k, C)) (hb : b G C = some (.v y, C)) (hC : C[k]? = some (some (.lst l))) (hf : f (.lst l) y = some (.v z)) : c2 f a b G C = some (.v z, C) := by
  simp [c2, bv, ha, hb, out, peek, hC, hf, Rd1.rs, Cell.d]
/-- x.append(e), x a list under way at k -/
theorem s_app {i k : Nat} {cm : CE} (h : cm G C = some (.v d, C)) (hG : G[i]? = some (some (.c k))) (hC : C[k]? = some (some (.lst l))) (hl : l.length < 1000) : sSeq (sExpr (cMl gApp (cVar i) (aCons cm aNil))) r G C = r G (C.set k (some (.lst (l ++ [d])))) := by
  simp [sSeq, sExpr, cMl, isL, cVar, sOf, hG, bv, ba, aCons, aNil, h, gApp, vals, sv, hC, show l.length < 100000 from by omega]
theorem s_cel {i : Nat} {k : Cell} (h : c G C = some (.n k, C1)) : sSeq (sCel i c) r G C = r (G.set i (some (.c C1.length))) (C1 ++ [some k]) := by
  simp [sSeq, sCel, h]
theorem n_lst1 (h : c G C = some (.v d, C1)) : cLst (aCons c aNil) G C = some (.n (.lst [d]), C1) := by
  simp [cLst, aCons, aNil, ba, h, vals, few, out, Rd1.rs]
theorem s_set {i : Nat} (h : c G C = some (.v x, C1)) : sSeq (sSet i c) r G C = r (G.set i (some (.v x))) C1 := by
  simp [sSeq, sSet, sv, h]
theorem s_if (h : t G C = some (.v (.bl false), C1)) : sSeq (sIf t a sNil) r G C = r G C1 := by
  simp [sSeq, sIf, sv, h, onS, sNil]
theorem v_one {k i : Nat} {f : List D → List D → Option (Rv × List D)} (hG : G[i]? = some (some (.c k))) (hC : C[k]? = some (some (.lst S))) (hm : c G C = some (.v y, C)) (h : f S [y] = some (.ok d, S')) : cFnC f (aCons (cVar i) (aCons c aNil)) G C = some (.v d, C.set k (some (.lst S'))) := by
  simp [cFnC, aCons, aNil, ba, cVar, sOf, hG, hm, fnC, hC, vals, h, Rv.rs]
theorem v_fn (ha : ca G C = some (.ok xs, C1)) (hv : vals xs = some ds) (h : m ds = some (.ok d)) : cFn m ca G C = some (.v d, C1) := by
  unfold cFn
  rw [ha]
  simp [ba, hv, h, Rv.rs]
theorem s_ret (h : c G C = some (.v x, C1)) : sRet c G C = some (.rt x, G, C1) := by
  simp [sRet, sv, h, rtS]
end
section
variable {G G' : Sl} {C C' C1 : Cs} {c t : CE} {r a : CS} {x d : D} {l : List D} {res : So}
theorem b_set {i : Nat} (h : c G C = some (.v x, C1)) (e : G.set i (some (.v x)) = G') (n : r G' C1 = res) : sSeq (sSet i c) r G C = res := by rw [s_set h, e, n]
theorem b_cel {i : Nat} {k : Cell} (h : c G C = some (.n k, C1)) (e : G.set i (some (.c C1.length)) = G') (e2 : C1 ++ [some k] = C') (n : r G' C' = res) : sSeq (sCel i c) r G C = res := by rw [s_cel h, e, e2, n]
theorem b_app {i k : Nat} {cm : CE} (h : cm G C = some (.v d, C)) (hG : G[i]? = some (some (.c k))) (hC : C[k]? = some (some (.lst l))) (hl : decide (l.length < 1000) = true) (e : C.set k (some (.lst (l ++ [d]))) = C') (n : r G C' = res) : sSeq (sExpr (cMl gApp (cVar i) (aCons cm aNil))) r G C = res := by rw [s_app h hG hC (of_decide_eq_true hl), e, n]
theorem b_if (h : t G C = some (.v (.bl false), C1)) (n : r G C1 = res) : sSeq (sIf t a sNil) r G C = res := by rw [s_if h, n]
end
theorem outC_of {x : So} {G : Sl} {C : Cs} {S : List D} {d : D} (e : x = some (.rt d, G, C)) (h : C[0]? = some (some (.lst S))) : outC x = some (.ok d, S) := by
  rw [e]
  unfold outC
  simp only [h]
theorem all2 {α β : Type} {l : List α} {k : List β} {p : α → β → Bool} (h : (l.all fun a => k.all fun b => p a b) = true) {a : α} {b : β} (ha : a ∈ l) (hb : b ∈ k) : p a b = true := List.all_eq_true.mp (List.all_eq_true.mp h a ha) b hb
theorem two_of {p q : Bool} (h : (p && q) = true) : p = true ∧ q = true := Bool.and_eq_true_iff.mp h
def isF : Option Rd1 → Bool
  | some (.v (.bl false)) => true
  | _ => false
theorem isF_of {r : Option Rd1} (h : isF r = true) : r = some (.v (.bl false)) := by
  unfold isF at h
  split at h
  · rfl
  · cases h
/-- a loop whose turns all go on and keep P -/
theorem loop_keeps {tg : CT} {body : CS} {P : Sl → Cs → Prop} : ∀ {ds : List D} {G : Sl} {C : Cs}, (∀ d ∈ ds, ∀ G C, P G C → ∃ G1 G2 C2, tg d G = some G1 ∧ body G1 C = some (.nx, G2, C2) ∧ P G2 C2) → P G C → ∃ G' C', lpF tg body ds G C = some (.nx, G', C') ∧ P G' C'
  | [], G, C, _, p => ⟨G, C, rfl, p⟩
  | d :: ds, G, C, h, p => by
    obtain ⟨G1, G2, C2, h1, h2, p2⟩ := h d (List.mem_cons_self ..) G C p
    obtain ⟨G', C', h3, p3⟩ := loop_keeps (ds := ds) (fun d hd => h d (List.mem_cons_of_mem _ hd)) p2
    refine ⟨G', C', ?_, p3⟩
    unfold lpF
    rw [h1]
    simp only [Option.bind_some]
    rw [h2]
    exact h3
def Three (C : Cs) (k : Nat) : Prop := ∃ a b c : Int, C[k]? = some (some (.lst [.int a, .int b, .int c]))
/-- range(max(1, min(n, len(script)))) -/
theorem i_cells {ns : List Int} {G : Sl} {C : Cs} {n : Int} (hn : 0 ≤ n ∧ n ≤ 100) (h : G[0]? = some (some (.v (.scr ns)))) : ∃ k : Nat, iRg1 (cCall fMax (aCons (cC (.int 1)) (aCons (cCall fMin2 (aCons (cC (.int n)) (aCons (cCall fLen (aCons (cVar 0) aNil)) aNil))) aNil))) G C = some (.ok (rngD 0 k), C) := by
  have e1 : cCall fLen (aCons (cVar 0) aNil) G C = some (.v (.int ns.length), C) := v_call1 (v_var h) rfl
  have e2 : cCall fMin2 (aCons (cC (.int n)) (aCons (cCall fLen (aCons (cVar 0) aNil)) aNil)) G C = some (.v (.int (if (ns.length : Int) < n then ns.length else n)), C) := v_call2 rfl e1 rfl
  have e3 := v_call2 (f := fMax) (a := cC (.int 1)) (G := G) (C := C) (C1 := C) rfl e2 rfl
  obtain ⟨x, hx⟩ : ∃ x : Int, x = (if (if (ns.length : Int) < n then (ns.length : Int) else n) > 1 then if (ns.length : Int) < n then (ns.length : Int) else n else 1) := ⟨_, rfl⟩
  have hb : -(2 ^ 62) ≤ x ∧ x < 2 ^ 62 := by
    rw [hx]
    constructor <;> split <;> (try split) <;> omega
  rw [← hx] at e3
  refine ⟨x.toNat, ?_⟩
  unfold iRg1
  rw [e3]
  simp only
  rw [if_pos hb]
end TL
set_option Elab.async false
set_option linter.all false
set_option maxRecDepth 100000
set_option maxHeartbeats 2000000
namespace K51
open PySem TL
theorem eq_grab : m_grab = gGrab := rfl
theorem eq_one : m_one_of = gOne := rfl
theorem eq_sack : m_sack = gSack := rfl
def path : D := (.obj 6 [("_size", (.int 3)), ("_names", (.tup [(.str "xor")])), ("_ties", (.dic [((.str "xor"), (.tup [(.int 2), (.tup [(.tup [(.int 0), (.int 1)]), (.tup [(.int 1), (.int 0)]), (.tup [(.int 1), (.int 2)]), (.tup [(.int 2), (.int 1)])])]))])), ("_sets", (.tup [(.tup [(.int 0)]), (.tup [(.int 0), (.int 1)]), (.tup [(.int 0), (.int 1), (.int 2)]), (.tup [(.int 0), (.int 2)]), (.tup [(.int 1)]), (.tup [(.int 1), (.int 2)]), (.tup [(.int 2)])]))])
def two : D := (.obj 6 [("_size", (.int 2)), ("_names", (.tup [(.str "xor")])), ("_ties", (.dic [((.str "xor"), (.tup [(.int 2), (.tup [(.tup [(.int 0), (.int 1)]), (.tup [(.int 1), (.int 0)])])]))])), ("_sets", (.tup [(.tup [(.int 0)]), (.tup [(.int 0), (.int 1)]), (.tup [(.int 1)])]))])
def bads : List D := [.non, .int 0, .str "book", .tup [], .dic [], .lst [path], .bl true, .tup [.str "xor"]]
def valsA : List D := [.non, (.int 0), (.tup []), (.tup [(.int 0), (.int 1), (.int 0)]), (.lst [(.int 0), (.int 1), (.int 0)]), (.str "map"), (.dic []), (.tup [(.int 0), (.int 1), (.int 2), (.int 3)]), (.tup [(.int 0), .non, (.int 0)]), (.tup [(.tup [(.int 0)])])]
def valsB : List D := [.non, (.int 0), (.tup [(.int 3)]), (.tup [(.int 0), (.int (-1))]), (.lst [(.int 0)]), (.tup [(.bl true)]), (.tup [.non]), (.str "0"), (.dic []), (.tup [(.tup [(.int 0)])]), (.tup [(.int 0), (.int 1), (.int 2), (.int 3)])]
def fars : List D := [(.obj 6 [("_size", (.int 2)), ("_names", (.tup [(.str "zz")])), ("_ties", (.dic [((.str "zz"), (.tup [(.int 2), (.tup [(.tup [(.int 0), (.int 1)])])]))])), ("_sets", (.tup [(.tup [(.int 0)]), (.tup [(.int 0), (.int 1)]), (.tup [(.int 1)])]))]), (.obj 6 [("_size", (.int 2)), ("_names", (.tup [(.str "xor")])), ("_ties", (.dic [((.str "xor"), (.tup [(.int 1), (.tup [(.tup [(.int 0)])])]))])), ("_sets", (.tup [(.tup [(.int 0)]), (.tup [(.int 0), (.int 1)]), (.tup [(.int 1)])]))]), (.obj 6 [("_size", (.int 3)), ("_names", (.tup [])), ("_ties", (.dic [])), ("_sets", (.tup [(.tup [(.int 0)]), (.tup [(.int 0), (.int 1)]), (.tup [(.int 0), (.int 1), (.int 2)]), (.tup [(.int 0), (.int 2)]), (.tup [(.int 1)]), (.tup [(.int 1), (.int 2)]), (.tup [(.int 2)])]))]), (.obj 6 [("_size", (.int 2)), ("_names", (.tup [(.str "one"), (.str "xor")])), ("_ties", (.dic [((.str "one"), (.tup [(.int 1), (.tup [(.tup [(.int 0)])])])), ((.str "xor"), (.tup [(.int 2), (.tup [(.tup [(.int 0), (.int 1)]), (.tup [(.int 1), (.int 0)])])]))])), ("_sets", (.tup [(.tup [(.int 0)]), (.tup [(.int 0), (.int 1)]), (.tup [(.int 1)])]))])]
abbrev tl (r : Option Rv) : Option Str := told errsL subB hlsL "fine" r
def is (s : Str) (r : Option Rv) : Bool := decide (tl r = some s)
theorem is_of {s : Str} {r : Option Rv} (h : is s r = true) : tl r = some s := of_decide_eq_true h
theorem c_0 : (bads.all fun b => (valsA.all fun v => is "book" (m_is_value_map [b, b, v]))) = true := by decide +kernel
theorem c_1 : (bads.all fun b => (valsA.all fun v => is "book" (m_is_value_map [path, b, v]))) = true := by decide +kernel
theorem c_2 : (bads.all fun b => is "book" (m_value_maps [b, path])) = true := by decide +kernel
theorem c_3 : (bads.all fun b => is "book" (m_value_maps [path, b])) = true := by decide +kernel
theorem c_4 : (bads.all fun b => is "book" (m_folds [b])) = true := by decide +kernel
theorem c_5 : (bads.all fun b => is "book" (m_is_core [b])) = true := by decide +kernel
theorem c_6 : (bads.all fun b => is "book" (m_core [b])) = true := by decide +kernel
theorem c_7 : (bads.all fun b => is "book" (m_core_values [b])) = true := by decide +kernel
theorem c_8 : (bads.all fun b => is "book" (m_core_fold [b])) = true := by decide +kernel
theorem c_9 : (bads.all fun b => (valsB.all fun u => is "book" (m_to_core [b, u]))) = true := by decide +kernel
theorem c_10 : (bads.all fun b => (valsB.all fun u => is "book" (m_from_core [b, u]))) = true := by decide +kernel
theorem c_11 : (fars.all fun f => (valsA.all fun v => is "operation" (m_is_value_map [path, f, v]))) = true := by decide +kernel
theorem c_12 : (fars.all fun f => is "operation" (m_value_maps [f, path])) = true := by decide +kernel
theorem c_13 : (valsB.all fun u => is "operation" (m_to_core [path, u])) = true := by decide +kernel
theorem c_14 : (valsB.all fun u => is "operation" (m_from_core [path, u])) = true := by decide +kernel
theorem c_15 : is "operation" (m_from_core [path, (.tup [(.int 2)])]) = true := by decide +kernel
theorem c_16 : (valsA.all fun v => is "fine" (m_is_value_map [path, two, v])) = true := by decide +kernel
theorem c_17 : is "fine" (m_to_core [path, (.tup [(.int 2), (.int 0), (.int 1), (.int 2)])]) = true := by decide +kernel
theorem c_18 : is "fine" (m_from_core [path, .tup []]) = true := by decide +kernel
theorem right_ok (a b c : Int) : ∃ a' b' c' : Int, m_right [.int a, .int b, .int c] [path, two] = some (.ok (.bl true), [.int a', .int b', .int c']) := by
  obtain ⟨d1, h1, a1, b1, c1, e1⟩ := one_ok a b c bads (by decide) (by decide)
  obtain ⟨d2, h2, a2, b2, c2', e2⟩ := one_ok a1 b1 c1 valsA (by decide) (by decide)
  obtain ⟨d3, h3, a3, b3, c3, e3⟩ := one_ok a2 b2 c2' valsB (by decide) (by decide)
  obtain ⟨d4, h4, a4, b4, c4, e4⟩ := one_ok a3 b3 c3 fars (by decide) (by decide)
  refine ⟨a4, b4, c4, ?_⟩
  show outC (sSeq _ _ (slotsC 8 [path, two]) [some (.lst [.int a, .int b, .int c])]) = _
  rw [eq_one]
  refine outC_of (G := [some (.c 0), some (.v path), some (.v two), some (.v d1), some (.v d2), some (.v d3), some (.v d4), some (.c 2)]) (C := [some (.lst [.int a4, .int b4, .int c4]), some (.lst [.str "book", .str "book", .str "book", .str "book", .str "book", .str "book", .str "book", .str "book", .str "book", .str "book", .str "book"]), some (.lst [.str "operation", .str "operation", .str "operation", .str "operation", .str "operation", .str "fine", .str "fine", .str "fine"])]) ?_ rfl
  refine b_set (G' := [some (.c 0), some (.v path), some (.v two), some (.v d1), none, none, none, none]) (v_one (k := 0) rfl rfl (y := .lst bads) (by kernel_rfl) e1) rfl ?_
  refine b_set (G' := [some (.c 0), some (.v path), some (.v two), some (.v d1), some (.v d2), none, none, none]) (v_one (k := 0) (C := [some (.lst [.int a1, .int b1, .int c1])]) rfl rfl (y := .lst valsA) (by kernel_rfl) e2) rfl ?_
  refine b_set (G' := [some (.c 0), some (.v path), some (.v two), some (.v d1), some (.v d2), some (.v d3), none, none]) (v_one (k := 0) (C := [some (.lst [.int a2, .int b2, .int c2'])]) rfl rfl (y := .lst valsB) (by kernel_rfl) e3) rfl ?_
  refine b_set (G' := [some (.c 0), some (.v path), some (.v two), some (.v d1), some (.v d2), some (.v d3), some (.v (.lst fars)), none]) (x := .lst fars) (C := [some (.lst [.int a3, .int b3, .int c3])]) (C1 := [some (.lst [.int a3, .int b3, .int c3])]) (by kernel_rfl) rfl ?_
  refine b_set (G' := [some (.c 0), some (.v path), some (.v two), some (.v d1), some (.v d2), some (.v d3), some (.v d4), none]) (v_one (k := 0) (C := [some (.lst [.int a3, .int b3, .int c3])]) rfl rfl (v_var rfl) e4) rfl ?_
  refine b_cel (G' := [some (.c 0), some (.v path), some (.v two), some (.v d1), some (.v d2), some (.v d3), some (.v d4), some (.c 1)]) (C' := [some (.lst [.int a4, .int b4, .int c4]), some (.lst [.str "book"])]) (n_lst1 (v_met0 (xs := [.v (d1), .v (d1), .v (d2)]) (ds := [(d1), (d1), (d2)]) rfl rfl (is_of (all2 c_0 h1 h2)))) rfl rfl ?_
  refine b_app (k := 1) (l := [.str "book"]) (C' := [some (.lst [.int a4, .int b4, .int c4]), some (.lst [.str "book", .str "book"])]) (v_met0 (xs := [.v (path), .v (d1), .v (d2)]) (ds := [(path), (d1), (d2)]) rfl rfl (is_of (all2 c_1 h1 h2))) rfl rfl rfl rfl ?_
  refine b_app (k := 1) (l := [.str "book", .str "book"]) (C' := [some (.lst [.int a4, .int b4, .int c4]), some (.lst [.str "book", .str "book", .str "book"])]) (v_met0 (xs := [.v (d1), .v (path)]) (ds := [(d1), (path)]) rfl rfl (is_of (List.all_eq_true.mp c_2 d1 h1))) rfl rfl rfl rfl ?_
  refine b_app (k := 1) (l := [.str "book", .str "book", .str "book"]) (C' := [some (.lst [.int a4, .int b4, .int c4]), some (.lst [.str "book", .str "book", .str "book", .str "book"])]) (v_met0 (xs := [.v (path), .v (d1)]) (ds := [(path), (d1)]) rfl rfl (is_of (List.all_eq_true.mp c_3 d1 h1))) rfl rfl rfl rfl ?_
  refine b_app (k := 1) (l := [.str "book", .str "book", .str "book", .str "book"]) (C' := [some (.lst [.int a4, .int b4, .int c4]), some (.lst [.str "book", .str "book", .str "book", .str "book", .str "book"])]) (v_met0 (xs := [.v (d1)]) (ds := [(d1)]) rfl rfl (is_of (List.all_eq_true.mp c_4 d1 h1))) rfl rfl rfl rfl ?_
  refine b_app (k := 1) (l := [.str "book", .str "book", .str "book", .str "book", .str "book"]) (C' := [some (.lst [.int a4, .int b4, .int c4]), some (.lst [.str "book", .str "book", .str "book", .str "book", .str "book", .str "book"])]) (v_met0 (xs := [.v (d1)]) (ds := [(d1)]) rfl rfl (is_of (List.all_eq_true.mp c_5 d1 h1))) rfl rfl rfl rfl ?_
  refine b_app (k := 1) (l := [.str "book", .str "book", .str "book", .str "book", .str "book", .str "book"]) (C' := [some (.lst [.int a4, .int b4, .int c4]), some (.lst [.str "book", .str "book", .str "book", .str "book", .str "book", .str "book", .str "book"])]) (v_met0 (xs := [.v (d1)]) (ds := [(d1)]) rfl rfl (is_of (List.all_eq_true.mp c_6 d1 h1))) rfl rfl rfl rfl ?_
  refine b_app (k := 1) (l := [.str "book", .str "book", .str "book", .str "book", .str "book", .str "book", .str "book"]) (C' := [some (.lst [.int a4, .int b4, .int c4]), some (.lst [.str "book", .str "book", .str "book", .str "book", .str "book", .str "book", .str "book", .str "book"])]) (v_met0 (xs := [.v (d1)]) (ds := [(d1)]) rfl rfl (is_of (List.all_eq_true.mp c_7 d1 h1))) rfl rfl rfl rfl ?_
  refine b_app (k := 1) (l := [.str "book", .str "book", .str "book", .str "book", .str "book", .str "book", .str "book", .str "book"]) (C' := [some (.lst [.int a4, .int b4, .int c4]), some (.lst [.str "book", .str "book", .str "book", .str "book", .str "book", .str "book", .str "book", .str "book", .str "book"])]) (v_met0 (xs := [.v (d1)]) (ds := [(d1)]) rfl rfl (is_of (List.all_eq_true.mp c_8 d1 h1))) rfl rfl rfl rfl ?_
  refine b_app (k := 1) (l := [.str "book", .str "book", .str "book", .str "book", .str "book", .str "book", .str "book", .str "book", .str "book"]) (C' := [some (.lst [.int a4, .int b4, .int c4]), some (.lst [.str "book", .str "book", .str "book", .str "book", .str "book", .str "book", .str "book", .str "book", .str "book", .str "book"])]) (v_met0 (xs := [.v (d1), .v (d3)]) (ds := [(d1), (d3)]) rfl rfl (is_of (all2 c_9 h1 h3))) rfl rfl rfl rfl ?_
  refine b_app (k := 1) (l := [.str "book", .str "book", .str "book", .str "book", .str "book", .str "book", .str "book", .str "book", .str "book", .str "book"]) (C' := [some (.lst [.int a4, .int b4, .int c4]), some (.lst [.str "book", .str "book", .str "book", .str "book", .str "book", .str "book", .str "book", .str "book", .str "book", .str "book", .str "book"])]) (v_met0 (xs := [.v (d1), .v (d3)]) (ds := [(d1), (d3)]) rfl rfl (is_of (all2 c_10 h1 h3))) rfl rfl rfl rfl ?_
  refine b_if (v_c2p (k := 1) (l := [.str "book", .str "book", .str "book", .str "book", .str "book", .str "book", .str "book", .str "book", .str "book", .str "book", .str "book"]) (y := .lst [.str "book", .str "book", .str "book", .str "book", .str "book", .str "book", .str "book", .str "book", .str "book", .str "book", .str "book"]) rfl (by kernel_rfl) rfl (isF_of (by decide +kernel))) ?_
  refine b_cel (G' := [some (.c 0), some (.v path), some (.v two), some (.v d1), some (.v d2), some (.v d3), some (.v d4), some (.c 2)]) (C' := [some (.lst [.int a4, .int b4, .int c4]), some (.lst [.str "book", .str "book", .str "book", .str "book", .str "book", .str "book", .str "book", .str "book", .str "book", .str "book", .str "book"]), some (.lst [.str "operation"])]) (n_lst1 (v_met0 (xs := [.v (path), .v (d4), .v (d2)]) (ds := [(path), (d4), (d2)]) rfl rfl (is_of (all2 c_11 h4 h2)))) rfl rfl ?_
  refine b_app (k := 2) (l := [.str "operation"]) (C' := [some (.lst [.int a4, .int b4, .int c4]), some (.lst [.str "book", .str "book", .str "book", .str "book", .str "book", .str "book", .str "book", .str "book", .str "book", .str "book", .str "book"]), some (.lst [.str "operation", .str "operation"])]) (v_met0 (xs := [.v (d4), .v (path)]) (ds := [(d4), (path)]) rfl rfl (is_of (List.all_eq_true.mp c_12 d4 h4))) rfl rfl rfl rfl ?_
  refine b_app (k := 2) (l := [.str "operation", .str "operation"]) (C' := [some (.lst [.int a4, .int b4, .int c4]), some (.lst [.str "book", .str "book", .str "book", .str "book", .str "book", .str "book", .str "book", .str "book", .str "book", .str "book", .str "book"]), some (.lst [.str "operation", .str "operation", .str "operation"])]) (v_met0 (xs := [.v (path), .v (d3)]) (ds := [(path), (d3)]) rfl rfl (is_of (List.all_eq_true.mp c_13 d3 h3))) rfl rfl rfl rfl ?_
  refine b_app (k := 2) (l := [.str "operation", .str "operation", .str "operation"]) (C' := [some (.lst [.int a4, .int b4, .int c4]), some (.lst [.str "book", .str "book", .str "book", .str "book", .str "book", .str "book", .str "book", .str "book", .str "book", .str "book", .str "book"]), some (.lst [.str "operation", .str "operation", .str "operation", .str "operation"])]) (v_met0 (xs := [.v (path), .v (d3)]) (ds := [(path), (d3)]) rfl rfl (is_of (List.all_eq_true.mp c_14 d3 h3))) rfl rfl rfl rfl ?_
  refine b_app (k := 2) (l := [.str "operation", .str "operation", .str "operation", .str "operation"]) (C' := [some (.lst [.int a4, .int b4, .int c4]), some (.lst [.str "book", .str "book", .str "book", .str "book", .str "book", .str "book", .str "book", .str "book", .str "book", .str "book", .str "book"]), some (.lst [.str "operation", .str "operation", .str "operation", .str "operation", .str "operation"])]) (v_met0 (xs := [.v (path), .v ((.tup [(.int 2)]))]) (ds := [(path), ((.tup [(.int 2)]))]) rfl rfl (is_of c_15)) rfl rfl rfl rfl ?_
  refine b_app (k := 2) (l := [.str "operation", .str "operation", .str "operation", .str "operation", .str "operation"]) (C' := [some (.lst [.int a4, .int b4, .int c4]), some (.lst [.str "book", .str "book", .str "book", .str "book", .str "book", .str "book", .str "book", .str "book", .str "book", .str "book", .str "book"]), some (.lst [.str "operation", .str "operation", .str "operation", .str "operation", .str "operation", .str "fine"])]) (v_met0 (xs := [.v (path), .v (two), .v (d2)]) (ds := [(path), (two), (d2)]) rfl rfl (is_of (List.all_eq_true.mp c_16 d2 h2))) rfl rfl rfl rfl ?_
  refine b_app (k := 2) (l := [.str "operation", .str "operation", .str "operation", .str "operation", .str "operation", .str "fine"]) (C' := [some (.lst [.int a4, .int b4, .int c4]), some (.lst [.str "book", .str "book", .str "book", .str "book", .str "book", .str "book", .str "book", .str "book", .str "book", .str "book", .str "book"]), some (.lst [.str "operation", .str "operation", .str "operation", .str "operation", .str "operation", .str "fine", .str "fine"])]) (v_met0 (xs := [.v (path), .v ((.tup [(.int 2), (.int 0), (.int 1), (.int 2)]))]) (ds := [(path), ((.tup [(.int 2), (.int 0), (.int 1), (.int 2)]))]) rfl rfl (is_of c_17)) rfl rfl rfl rfl ?_
  refine b_app (k := 2) (l := [.str "operation", .str "operation", .str "operation", .str "operation", .str "operation", .str "fine", .str "fine"]) (C' := [some (.lst [.int a4, .int b4, .int c4]), some (.lst [.str "book", .str "book", .str "book", .str "book", .str "book", .str "book", .str "book", .str "book", .str "book", .str "book", .str "book"]), some (.lst [.str "operation", .str "operation", .str "operation", .str "operation", .str "operation", .str "fine", .str "fine", .str "fine"])]) (v_met0 (xs := [.v (path), .v (.tup [])]) (ds := [(path), (.tup [])]) rfl rfl (is_of c_18)) rfl rfl rfl rfl ?_
  exact s_ret (v_c2p (k := 2) (l := [.str "operation", .str "operation", .str "operation", .str "operation", .str "operation", .str "fine", .str "fine", .str "fine"]) (y := .lst [.str "operation", .str "operation", .str "operation", .str "operation", .str "operation", .str "fine", .str "fine", .str "fine"]) rfl (by kernel_rfl) rfl (z := .bl true) (by kernel_rfl))
def lawA : CS := (sPar 1 2 (aCons (cMake 6 m_Book_init (aCons (cC (.int 3)) (aCons (cFr (cDisp (aCons (cC (.str "xor")) (aCons (cTup (aCons (cC (.int 2)) (aCons (cTup (aCons (cTup (aCons (cC (.int 0)) (aCons (cC (.int 1)) aNil))) (aCons (cTup (aCons (cC (.int 1)) (aCons (cC (.int 0)) aNil))) (aCons (cTup (aCons (cC (.int 1)) (aCons (cC (.int 2)) aNil))) (aCons (cTup (aCons (cC (.int 2)) (aCons (cC (.int 1)) aNil))) aNil))))) aNil))) aNil)))) aNil))) (aCons (cMake 6 m_Book_init (aCons (cC (.int 2)) (aCons (cFr (cDisp (aCons (cC (.str "xor")) (aCons (cTup (aCons (cC (.int 2)) (aCons (cTup (aCons (cTup (aCons (cC (.int 0)) (aCons (cC (.int 1)) aNil))) (aCons (cTup (aCons (cC (.int 1)) (aCons (cC (.int 0)) aNil))) aNil))) aNil))) aNil)))) aNil))) aNil)))
def lawL : CS := (sFor (iRg1 (cCall fMax (aCons (cC (.int 1)) (aCons (cCall fMin2 (aCons (cC (.int 8)) (aCons (cCall fLen (aCons (cVar 0) aNil)) aNil))) aNil)))) (tName 3) (sSeq (sCel 4 (cFnN m_sack (aCons (cVar 0) (aCons (cVar 3) aNil))))
  (sFor (iRg1 (cC (.int 3))) (tName 5) (sIf (cNot (cFnC m_right (aCons (cVar 4) (aCons (cVar 1) (aCons (cVar 2) aNil))))) (sRet (cC (.bl false))) sNil))))
def lawR : CS := (sRet (cAnd (c2 (fEq false) (cFn m_value_maps (aCons (cVar 1) (aCons (cVar 2) aNil))) (cTup (aCons (cTup (aCons (cC (.int 0)) (aCons (cC (.int 1)) (aCons (cC (.int 0)) aNil)))) (aCons (cTup (aCons (cC (.int 1)) (aCons (cC (.int 0)) (aCons (cC (.int 1)) aNil)))) aNil)))) (cAnd (c2 (fEq false) (cFn m_core_fold (aCons (cVar 2) aNil)) (cTup (aCons (cC (.int 0)) (aCons (cC (.int 1)) aNil)))) (cFn m_is_core (aCons (cVar 2) aNil)))))
theorem m_law_eq : m_law = runP 6 1 (sSeq lawA (sSeq lawL lawR)) := rfl
theorem law_start (ns : List Int) (R : CS) : sSeq lawA R (slots 6 [.scr ns]) [] = R [some (.v (.scr ns)), some (.v path), some (.v two), none, none, none] [] := by kernel_rfl
theorem law_rest (ns : List Int) (a b c : Option Sv) (C : Cs) : outP (lawR [some (.v (.scr ns)), some (.v path), some (.v two), a, b, c] C) = some (.ok (.bl true)) := by kernel_rfl
def Base (ns : List Int) (G : Sl) : Prop := G.length = 6 ∧ G[0]? = some (some (.v (.scr ns))) ∧ G[1]? = some (some (.v path)) ∧ G[2]? = some (some (.v two))
theorem Base.set {ns : List Int} {G : Sl} (h : Base ns G) {i : Nat} (hi : 3 ≤ i) (x : Option Sv) : Base ns (G.set i x) := by
  obtain ⟨h0, h1, h2, h3⟩ := h
  refine ⟨by rw [List.length_set]; exact h0, ?_, ?_, ?_⟩ <;> rw [List.getElem?_set_ne (by omega)] <;> assumption
abbrev turn : CS := sIf (cNot (cFnC m_right (aCons (cVar 4) (aCons (cVar 1) (aCons (cVar 2) aNil))))) (sRet (cC (.bl false))) sNil
theorem turn_ok {ns : List Int} {G : Sl} {C : Cs} {k : Nat} (h : Base ns G) (g6 : G[4]? = some (some (.c k))) (hk : Three C k) : ∃ C', turn G C = some (.nx, G, C') ∧ Three C' k := by
  obtain ⟨h0, h1, h2, h3⟩ := h
  obtain ⟨a, b, c, hk⟩ := hk
  obtain ⟨a', b', c', e⟩ := right_ok a b c
  refine ⟨C.set k (some (.lst [.int a', .int b', .int c'])), ?_, a', b', c', ?_⟩
  · simp [turn, sIf, sNil, sv, cNot, cFnC, aCons, aNil, ba, cVar, sOf, g6, h2, h3, fnC, hk, vals, e, Rv.rs, onS, bv, c1, onB]
  · rw [List.getElem?_set_self (List.getElem?_eq_some_iff.mp hk).1]
def Inner (ns : List Int) (k : Nat) (G : Sl) (C : Cs) : Prop := Base ns G ∧ G[4]? = some (some (.c k)) ∧ Three C k
theorem inner_ok {ns : List Int} {k : Nat} {G : Sl} {C : Cs} (h : Inner ns k G C) : ∃ G' C', sFor (iRg1 (cC (.int 3))) (tName 5) turn G C = some (.nx, G', C') ∧ Inner ns k G' C' := by
  have e : iRg1 (cC (.int 3)) G C = some (.ok (rngD 0 3), C) := by simp [iRg1, cC]
  unfold sFor
  rw [e]
  refine loop_keeps (ds := rngD 0 3) (fun d _ G C ⟨hb, g6, hk⟩ => ?_) h
  have hb2 := hb.set (i := 5) (by omega) (some (.v d))
  have g62 : (G.set 5 (some (.v d)))[4]? = some (some (.c k)) := by rw [List.getElem?_set_ne (by omega)]; exact g6
  obtain ⟨C', e, hk'⟩ := turn_ok hb2 g62 hk
  exact ⟨_, _, _, rfl, e, hb2, g62, hk'⟩
theorem outer_ok {ns : List Int} {n : Nat} {G : Sl} {C : Cs} (h : Base ns G) : ∃ G' C', lpF (tName 3) (sSeq (sCel 4 (cFnN m_sack (aCons (cVar 0) (aCons (cVar 3) aNil)))) (sFor (iRg1 (cC (.int 3))) (tName 5) turn)) (rngD 0 n) G C = some (.nx, G', C') ∧ Base ns G' := by
  refine loop_keeps (P := fun G _ => Base ns G) (fun d hd G C hb => ?_) h
  obtain ⟨i, _, rfl⟩ := List.mem_map.mp hd
  have hb2 := hb.set (i := 3) (by omega) (some (.v (.int (0 + (i : Int)))))
  obtain ⟨a, b, c, es⟩ := sack_ok ns i
  have es' : m_sack [.scr ns, .int (0 + (i : Int))] = some (.ok [.int a, .int b, .int c]) := by rw [Int.zero_add, eq_sack]; exact es
  have g5 : (G.set 3 (some (.v (.int (0 + (i : Int))))))[3]? = some (some (.v (.int (0 + (i : Int))))) := List.getElem?_set_self (by rw [hb.1]; omega)
  have w1 : cFnN m_sack (aCons (cVar 0) (aCons (cVar 3) aNil)) (G.set 3 (some (.v (.int (0 + (i : Int)))))) C = some (.n (.lst [.int a, .int b, .int c]), C) := by
    unfold cFnN
    have z : aCons (cVar 0) (aCons (cVar 3) aNil) (G.set 3 (some (.v (.int (0 + (i : Int)))))) C = some (.ok [.v (.scr ns), .v (.int (0 + (i : Int)))], C) := by
      unfold aCons aNil cVar sOf
      rw [hb2.2.1, g5]
      rfl
    rw [z]
    simp only [ba, vals, Option.map_some, Option.bind_some]
    rw [es']
    rfl
  have hi : Inner ns C.length ((G.set 3 (some (.v (.int (0 + (i : Int)))))).set 4 (some (.c C.length))) (C ++ [some (.lst [.int a, .int b, .int c])]) := by
    refine ⟨hb2.set (by omega) _, List.getElem?_set_self (by rw [hb2.1]; omega), a, b, c, ?_⟩
    rw [List.getElem?_append_right (Nat.le_refl _), Nat.sub_self]
    rfl
  obtain ⟨G', C', e, h', _⟩ := inner_ok hi
  refine ⟨_, G', C', rfl, ?_, h'⟩
  rw [s_cel w1]
  exact e
theorem law_ok (ns : List Int) : m_law [.scr ns] = some (.ok (.bl true)) := by
  rw [m_law_eq]
  show outP (sSeq lawA (sSeq lawL lawR) (slots 6 [.scr ns]) []) = _
  rw [law_start]
  obtain ⟨n, hn⟩ := i_cells (ns := ns) (G := [some (.v (.scr ns)), some (.v path), some (.v two), none, none, none]) (C := []) (n := 8) (by omega) rfl
  obtain ⟨G', C', h1, h0, g0, g1, g2⟩ := outer_ok (ns := ns) (n := n) (G := [some (.v (.scr ns)), some (.v path), some (.v two), none, none, none]) (C := []) ⟨rfl, rfl, rfl, rfl⟩
  have e : lawL [some (.v (.scr ns)), some (.v path), some (.v two), none, none, none] [] = some (.nx, G', C') := by
    unfold lawL sFor
    rw [hn]
    exact h1
  unfold sSeq
  rw [e]
  match G', h0, g0, g1, g2 with
  | [x0, x1, x2, a, b, c], _, g0, g1, g2 =>
    cases g0; cases g1; cases g2
    exact law_rest ns a b c C'
end K51
set_option Elab.async false
set_option linter.all false
set_option maxRecDepth 100000
set_option maxHeartbeats 4000000
/-! Vw: what is read of the written part, for the end of any law. -/
namespace TL
open PySem PySem.Spec PyProof.Rows L2 Gd
theorem ba2 {a b : Bool} (h : (a && b) = true) : a = true ∧ b = true := Bool.and_eq_true_iff.mp h
def fnB (K : PySem.W.Frag) (f : Addr) : Bool := PySem.W.isFn K (.ref f) && PySem.W.fnIn K f
def prB (K : PySem.W.Frag) (p : Addr) : Bool := decide (PySem.W.specialIn K (.ref p) "__get__" = some (some (.builtin "property.__get__"))) && decide (PySem.W.takesIn K (.ref p) = some true)
def kinds7 : List String := ["NoneType", "bool", "int", "str", "list", "dict", "tuple"]
/-- an own class C whose instances have the fields fs -/
def clsB (K : PySem.W.Frag) (C : Addr) (fs : List Str) : Bool := PySem.W.plainGet K C Str.empty && (PySem.W.hasDictIn K C && (PySem.W.plainOver K C && (decide (PySem.W.findIn K (.ref C) "__setattr__" = some (some (.builtin "object.__setattr__"))) &&
  ((fs.all fun f => decide (PySem.W.findIn K (.ref C) f = some none)) &&
  (decide (PySem.W.findIn K (.ref C) "__class__" = some (some (.builtin "object.__class__"))) && (decide (PySem.W.specialIn K (.builtin "object.__class__") "__get__" = some (some (.builtin "getset_descriptor.__get__"))) && (decide (PySem.W.takesIn K (.builtin "object.__class__") = some true) && (decide (PySem.W.mroIn K C (.type "object") = some true) &&
  ((["int", "bool", "str", "tuple", "dict"].all fun T => decide (PySem.W.kitOne K (.ref C) (.type T) = some false)) && ((kinds7.all fun T => decide (PySem.W.kitOne K (.type T) (.ref C) = some false) && PySem.W.notFirst K C (.type T)) &&
  (PySem.W.makesIn K C && (PySem.W.keepIn K (.ref C) && decide (PySem.W.findIn K (.ref C) "__ne__" = some (some (.builtin "object.__ne__")))))))))))))))
structure ClsB (K : PySem.W.Frag) (C : Addr) (fs : List Str) : Prop where
  cl : Cls K C
  na : ∀ f ∈ fs, NoAttr K C f
  pl : PlainC K C
  kb : ∀ T, (T = "NoneType" ∨ T = "bool" ∨ T = "int" ∨ T = "str" ∨ T = "list" ∨ T = "dict" ∨ T = "tuple") → PySem.W.kitOne K (.type T) (.ref C) = some false ∧ PySem.W.notFirst K C (.type T) = true
  ms : PySem.W.makesIn K C = true
  kp : PySem.W.keepIn K (.ref C) = true
theorem cls_of {K : PySem.W.Frag} {C : Addr} {fs : List Str} (h : clsB K C fs = true) : ClsB K C fs := by
  obtain ⟨h1, h⟩ := ba2 h
  obtain ⟨h2, h⟩ := ba2 h
  obtain ⟨h3, h⟩ := ba2 h
  obtain ⟨h4, h⟩ := ba2 h
  obtain ⟨h5, h⟩ := ba2 h
  obtain ⟨h9, h⟩ := ba2 h
  obtain ⟨h10, h⟩ := ba2 h
  obtain ⟨h11, h⟩ := ba2 h
  obtain ⟨h12, h⟩ := ba2 h
  obtain ⟨h13, h⟩ := ba2 h
  obtain ⟨h14, h⟩ := ba2 h
  obtain ⟨h15, h⟩ := ba2 h
  obtain ⟨h16, h17⟩ := ba2 h
  have cl : Cls K C := ⟨h1, h2, h3, of_decide_eq_true h4⟩
  refine ⟨cl, fun f hf => (show PySem.W.findIn K (.ref C) f = some none from of_decide_eq_true (List.all_eq_true.mp h5 f hf)), ⟨cl, of_decide_eq_true h9, of_decide_eq_true h10, of_decide_eq_true h11, of_decide_eq_true h12, fun T hT => ?_⟩, fun T hT => ?_, h15, h16⟩
  · refine of_decide_eq_true (List.all_eq_true.mp h13 T ?_)
    rcases hT with rfl | rfl | rfl | rfl | rfl <;> simp
  · have z := List.all_eq_true.mp h14 T (by unfold kinds7; rcases hT with rfl | rfl | rfl | rfl | rfl | rfl | rfl <;> simp)
    obtain ⟨z1, z2⟩ := ba2 z
    exact ⟨of_decide_eq_true z1, z2⟩
/-! ### errors -/
def plainB (K : PySem.W.Frag) (C : Addr) (bm : List Value) (newId : String) : Bool := PySem.W.excIn K C bm newId && (PySem.W.keepIn K (.ref C) && (decide (PySem.W.subIn K (.ref C) (.type "BaseException") = some true) && decide (PySem.W.typeIn K (.ref C) = some (.type "type"))))
theorem er1_of {K : PySem.W.Frag} {mg : Str → Option Value} {E : Ev} {x : Str} {c : Nat} {B newId initId : String} {bmB : List Value} (F : PySem.ExcBaseFacts B newId initId bmB) (h : plainB K (E.ce c) bmB newId = true) (g : mg x = some (.ref (E.ce c))) (db : (x == ("__debug__" : Str)) = false) : Er1 K mg E x c := by
  obtain ⟨h1, h⟩ := ba2 h
  obtain ⟨h2, h⟩ := ba2 h
  obtain ⟨h3, h4⟩ := ba2 h
  exact ⟨⟨B, newId, initId, bmB, F, h1⟩, g, h2, of_decide_eq_true h3, of_decide_eq_true h4, db⟩
def ownB (K : PySem.W.Frag) (C fI : Addr) (bm : List Value) (newId : String) (fld : Str) : Bool := Xc.madeB K C bm newId && (decide (PySem.W.findIn K (.ref C) "__setattr__" = some (some (.builtin "object.__setattr__"))) && (decide (PySem.W.subIn K (.ref C) (.type "BaseException") = some true) && (decide (PySem.W.typeIn K (.ref C) = some (.type "type")) &&
  (PySem.W.keepIn K (.ref C) && (decide (PySem.W.findIn K (.ref C) "__init__" = some (some (.ref fI))) && (decide (PySem.W.typeIn K (.ref fI) = some (.type "function")) && decide (PySem.W.findIn K (.ref C) fld = some none)))))))
theorem own_of {K : PySem.W.Frag} {C fI : Addr} {bm bmB : List Value} {B newId initId : String} {fld : Str} (F : PySem.ExcBaseFacts B newId initId bmB) (b : Xc.Bases B bm) (h : ownB K C fI bm newId fld = true) : Xc.Own K C fI ∧ PySem.W.findIn K (.ref C) fld = some none := by
  obtain ⟨h1, h⟩ := ba2 h
  obtain ⟨h2, h⟩ := ba2 h
  obtain ⟨h3, h⟩ := ba2 h
  obtain ⟨h4, h⟩ := ba2 h
  obtain ⟨h5, h⟩ := ba2 h
  obtain ⟨h6, h⟩ := ba2 h
  obtain ⟨h7, h8⟩ := ba2 h
  obtain ⟨nm, q, N, bs, sn, sub, ab, col, dd, k0, k1, k2, k3, k5, hl⟩ := Xc.made_of h1
  exact ⟨⟨⟨B, newId, initId, bmB, F, nm, q, N, bs, bm, sn, sub, ab, col, dd, k0, k1, k2, k3, k5, hl, b⟩, of_decide_eq_true h2, of_decide_eq_true h3, of_decide_eq_true h4, h5, of_decide_eq_true h6, of_decide_eq_true h7⟩, of_decide_eq_true h8⟩
def xfcB (K : PySem.W.Frag) (D : Addr) : Bool := decide (PySem.W.findIn K (.ref D) "__getattribute__" = some (some (.builtin "BaseException.__getattribute__"))) && (decide (PySem.W.findIn K (.ref D) "__getattr__" = some none) && (decide (PySem.W.subIn K (.ref D) (.type "BaseException") = some true) && PySem.W.hasDictIn K D))
theorem xf_of {K : PySem.W.Frag} {D : Addr} (h : xfcB K D = true) : XfC K D := by
  obtain ⟨h1, h⟩ := ba2 h
  obtain ⟨h2, h⟩ := ba2 h
  obtain ⟨h3, h4⟩ := ba2 h
  exact ⟨of_decide_eq_true h1, of_decide_eq_true h2, of_decide_eq_true h3, h4⟩
def exmB (K : PySem.W.Frag) (ce : Nat → Addr) (es ks : List Nat) (sub : Nat → Nat → Bool) : Bool := es.all fun e => ks.all fun k => decide (PySem.W.exmOne K (.ref (ce e)) (.ref (ce k)) = some (sub e k))
theorem exm_of {K : PySem.W.Frag} {ce : Nat → Addr} {es ks : List Nat} {sub : Nat → Nat → Bool} (h : exmB K ce es ks sub = true) : ∀ e ∈ es, ∀ k ∈ ks, PySem.W.exmOne K (.ref (ce e)) (.ref (ce k)) = some (sub e k) := fun e he k hk => of_decide_eq_true (List.all_eq_true.mp (List.all_eq_true.mp h e he) k hk)
def kitB (K : PySem.W.Frag) (cm : Nat → Addr) (cs : List Nat) : Bool := cs.all fun c => cs.all fun c' => decide (PySem.W.kitOne K (.ref (cm c')) (.ref (cm c)) = some (decide (c' = c)))
theorem kit_of {E : Ev} {cs : List Nat} (h : kitB E.K E.cm cs = true) (hc : ∀ c ∈ cs, ∃ fs, ClsB E.K (E.cm c) fs) : KitOk E cs :=
  ⟨fun c hm T hT => let ⟨_, b⟩ := hc c hm; (b.kb T hT).1, fun c hm c' hm' => of_decide_eq_true (List.all_eq_true.mp (List.all_eq_true.mp h c hm) c' hm')⟩
/-! ### tables of attributes, methods, dunders -/
section
variable {P : Program} {w : World} {K : PySem.W.Frag} {mg : Str → Option Value} {base : Heap} {E : Ev} {k n : Nat}
theorem at_nil {f : Str} : AtOk P w K mg base E k [] f := ⟨(fun c h => by cases h), (fun c m h => by cases h)⟩
theorem lookup_cons {α : Type} {c c' : Nat} {a b : α} {l : List (Nat × α)} (h : ((c, a) :: l).lookup c' = some b) : (c' = c ∧ a = b) ∨ l.lookup c' = some b := by
  by_cases e : c' == c
  · simp only [List.lookup, e] at h
    exact .inl ⟨by simpa using e, Option.some.inj h⟩
  · have e : (c' == c) = false := by simpa using e
    simp only [List.lookup, e] at h
    exact .inr h
theorem at_fld {c : Nat} {f : Str} {tbl : List AE} (cl : Cls K (E.cm c)) (na : NoAttr K (E.cm c) f) (r : AtOk P w K mg base E k tbl f) : AtOk P w K mg base E k ((c, none) :: tbl) f :=
  ⟨fun c' h => by
    rcases lookup_cons h with ⟨rfl, _⟩ | h
    · exact ⟨cl, na⟩
    · exact r.fld c' h, fun c' m h => by
    rcases lookup_cons h with ⟨_, z⟩ | h
    · cases z
    · exact r.prp c' m h⟩
theorem at_prp {j c : Nat} {f : Str} {tbl : List AE} {m : List D → Option Rv} {p g : Addr} {fd : FuncData} (cl : Cls K (E.cm c)) (q : PropOf K (E.cm c) f p g) (Fn : FnOk P w K mg base (L2.CX P w) j g fd ["self"] (spP E 1 m)) (hj : j ≤ k) (b : Binds K fd ["self"] []) (r : AtOk P w K mg base E k tbl f) : AtOk P w K mg base E k ((c, some m) :: tbl) f :=
  ⟨fun c' h => by
    rcases lookup_cons h with ⟨_, z⟩ | h
    · cases z
    · exact r.fld c' h, fun c' m' h => by
    rcases lookup_cons h with ⟨rfl, z⟩ | h
    · cases z; exact ⟨cl, p, g, fd, q, Fn.mono hj, b⟩
    · exact r.prp c' m' h⟩
theorem dn_nil {nm : Str} : DnOk P w K mg base E k n [] nm := ⟨(fun c m h => by cases h)⟩
theorem dn_cons {j c : Nat} {nm : Str} {tbl : MT} {m : List D → Option Rv} {g : Addr} {fd : FuncData} {ps : List Str} (d : Dun K (E.cm c) g nm) (Fn : FnOk P w K mg base (L2.CX P w) j g fd ps (spP E n m)) (hj : j ≤ k) (b : Binds K fd ps []) (fm : Fm n m) (r : DnOk P w K mg base E k n tbl nm) : DnOk P w K mg base E k n ((c, m) :: tbl) nm :=
  ⟨fun c' m' h => by
    rcases lookup_cons h with ⟨rfl, z⟩ | h
    · cases z; exact ⟨g, fd, ps, d, Fn.mono hj, b, fm⟩
    · exact r.ex c' m' h⟩
theorem mt_nil {nm : Str} : MtOk P w K mg base E k n [] nm := ⟨(fun c m h => by cases h)⟩
theorem mt_cons {j c : Nat} {nm : Str} {tbl : MT} {m : List D → Option Rv} {g : Addr} {fd : FuncData} {ps : List Str} (cl : Cls K (E.cm c)) (d : Meth K (E.cm c) nm g) (Fn : FnOk P w K mg base (L2.CX P w) j g fd ps (spP E n m)) (hj : j ≤ k) (b : Binds K fd ps []) (fm : Fm n m) (r : MtOk P w K mg base E k n tbl nm) : MtOk P w K mg base E k n ((c, m) :: tbl) nm :=
  ⟨fun c' m' h => by
    rcases lookup_cons h with ⟨rfl, z⟩ | h
    · cases z; exact ⟨cl, g, fd, ps, d, Fn.mono hj, b, fm⟩
    · exact r.ex c' m' h⟩
end
/-- the code object of a def, where its table lies elsewhere -/
theorem code_of {K : PySem.W.Frag} {f c P : Addr} {fd : FuncData} {x : Str} (hn : PySem.W.nsIn K mainGlobals x = some (some (.ref f))) {oc : Value} {od : Option Addr} {osl : Array (Option Value)} (hl : K.lookup f = some ⟨oc, od, .func fd, osl⟩) (ht : PySem.W.tabIn K x = some (c, P)) : fd.code = .ref c := by
  unfold PySem.W.tabIn at ht
  rw [hn] at ht
  simp only [hl] at ht
  split at ht
  · rename_i c₂ hc
    split at ht
    · split at ht
      · cases ht; exact hc
      · cases ht
    · cases ht
  · cases ht
theorem code_fun {K : PySem.W.Frag} {f c P : Addr} {fd : FuncData} {x q : Str} {st : Stmt} (hn : PySem.W.nsIn K mainGlobals x = some (some (.ref f))) (F : Fun K x q st f fd) (ht : PySem.W.tabIn K x = some (c, P)) : fd.code = .ref c := by
  obtain ⟨oc, od, kV, doc, pm, an, cdv, ct, osl, rfl, lk, hcd⟩ := F.ex
  exact code_of hn lk ht
/-- constants of scalars and tuples of the written part -/
theorem gl_sc {E : Ev} {mg : Str → Option Value} {x : Str} {d : D} {u : Value} {v : V} (hm : mg x = some u) (r : L2.RelV v u) (a : ∀ F, At E F v d) : GlD E mg x d := ⟨v, u, hm, r, a⟩
/-- a tuple of the written part, read whole -/
def kTup (K : PySem.W.Frag) (a : Addr) : Option (List Value) := match K.lookup a with
  | some ⟨.type "tuple", none, .seq its _, _⟩ => some its.toList
  | _ => none
theorem kTup_of {K : PySem.W.Frag} {a : Addr} {vs : List Value} (h : kTup K a = some vs) : ∃ (o : Obj) (its : Array Value) (n : Nat), K.lookup a = some o ∧ o.cls = .type "tuple" ∧ o.data = .seq its n ∧ its.toList = vs ∧ o.dict = none := by
  unfold kTup at h
  split at h
  · rename_i its n osl hk
    cases h
    exact ⟨_, its, _, hk, rfl, rfl, rfl, rfl⟩
  · cases h
def kSc : Value → D → Option V
  | .none, .non => some .non
  | .bool b, .bl c => if b = c then some (.bl b) else none
  | .int i _, .int j => if i = j then some (.int i) else none
  | .str x _, .str y => if x = y then some (.str x) else none
  | _, _ => none
theorem kSc_of {E : Ev} {v : Value} {d : D} {x : V} (h : kSc v d = some x) : L2.RelV x v ∧ ∀ F, At E F x d := by
  unfold kSc at h
  split at h
  · cases h; exact ⟨(rfl : Value.none = Value.none), fun _ => .non⟩
  · split at h
    · cases h; subst_vars; exact ⟨(rfl : Value.bool _ = Value.bool _), fun _ => .bl _⟩
    · cases h
  · split at h
    · cases h; subst_vars; exact ⟨⟨_, rfl⟩, fun _ => .int _⟩
    · cases h
  · split at h
    · cases h; subst_vars; exact ⟨⟨_, rfl⟩, fun _ => .str _⟩
    · cases h
  · cases h
def refOf : Value → Option Addr
  | .ref a => some a
  | _ => none
theorem refOf_of {v : Value} {a : Addr} (h : refOf v = some a) : v = .ref a := by
  unfold refOf at h
  split at h
  · cases h; rfl
  · cases h
mutual
def kVal (K : PySem.W.Frag) (v : Value) : D → Option V
  | .tup ds => match refOf v with
    | some a => match kTup K a with
      | some vs => if vs.length ≤ sizeLine then (kVals K vs ds).map fun _ => .ref a else none
      | none => none
    | none => none
  | d => kSc v d
def kVals (K : PySem.W.Frag) (vs : List Value) : List D → Option (List V)
  | [] => match vs with
    | [] => some []
    | _ => none
  | d :: ds => match vs with
    | v :: vs => match kVal K v d, kVals K vs ds with
      | some x, some xs => some (x :: xs)
      | _, _ => none
    | [] => none
end
mutual
theorem kVal_of {E : Ev} : ∀ {d : D} {v : Value} {x : V}, kVal E.K v d = some x → L2.RelV x v ∧ ∀ F, At E F x d
  | .tup ds, v, x, h => by
    rw [kVal] at h
    cases q : refOf v with
    | none => rw [q] at h; cases h
    | some a =>
      rw [q] at h
      simp only at h
      obtain rfl := refOf_of q
      cases q2 : kTup E.K a with
      | none => rw [q2] at h; cases h
      | some vs =>
        rw [q2] at h
        simp only at h
        by_cases l : vs.length ≤ sizeLine
        · rw [if_pos l] at h
          cases q3 : kVals E.K vs ds with
          | none => rw [q3] at h; cases h
          | some xs =>
            rw [q3] at h
            cases h
            obtain ⟨r1, r2⟩ := kVals_of q3
            obtain ⟨o, its, n, e1, e2, e3, e4, e5⟩ := kTup_of q2
            subst e4
            exact ⟨rfl, fun F => .tup (.inr ⟨o, its, n, e1, e2, e3, by simpa using l, r1⟩) (r2 F) (.inr ⟨o, e1, e2, e5⟩)⟩
        · rw [if_neg l] at h; cases h
  | .non, v, x, h => by (rw [kVal] at h; exact kSc_of h; intro _ z; cases z)
  | .bl _, v, x, h => by (rw [kVal] at h; exact kSc_of h; intro _ z; cases z)
  | .int _, v, x, h => by (rw [kVal] at h; exact kSc_of h; intro _ z; cases z)
  | .str _, v, x, h => by (rw [kVal] at h; exact kSc_of h; intro _ z; cases z)
  | .lst _, v, x, h => by (rw [kVal] at h; exact kSc_of h; intro _ z; cases z)
  | .dic _, v, x, h => by (rw [kVal] at h; exact kSc_of h; intro _ z; cases z)
  | .obj _ _, v, x, h => by (rw [kVal] at h; exact kSc_of h; intro _ z; cases z)
  | .ty _, v, x, h => by (rw [kVal] at h; exact kSc_of h; intro _ z; cases z)
  | .cls _, v, x, h => by (rw [kVal] at h; exact kSc_of h; intro _ z; cases z)
  | .pr _, v, x, h => by (rw [kVal] at h; exact kSc_of h; intro _ z; cases z)
  | .scr _, v, x, h => by (rw [kVal] at h; exact kSc_of h; intro _ z; cases z)
theorem kVals_of {E : Ev} : ∀ {ds : List D} {vs : List Value} {xs : List V}, kVals E.K vs ds = some xs → Vals xs vs ∧ ∀ F, Ats E F xs ds
  | [], [], xs, h => by rw [kVals] at h; cases h; exact ⟨.nil, fun _ => .nil⟩
  | [], _ :: _, xs, h => by simp [kVals] at h
  | _ :: _, [], xs, h => by simp [kVals] at h
  | d :: ds, v :: vs, xs, h => by
    rw [kVals] at h
    cases q1 : kVal E.K v d with
    | none => simp only [q1] at h; cases h
    | some x =>
      cases q2 : kVals E.K vs ds with
      | none => simp only [q1, q2] at h; cases h
      | some ys =>
        simp only [q1, q2] at h
        cases h
        obtain ⟨a1, b1⟩ := kVal_of q1
        obtain ⟨a2, b2⟩ := kVals_of q2
        exact ⟨.cons a1 a2, fun F => .cons (b1 F) (b2 F)⟩
end
theorem gl_of {E : Ev} {mg : Str → Option Value} {x : Str} {d : D} {u : Value} (hm : mg x = some u) (h : (kVal E.K u d).isSome = true) : GlD E mg x d := by
  obtain ⟨v, e⟩ := Option.isSome_iff_exists.mp h
  obtain ⟨r, a⟩ := kVal_of e
  exact ⟨v, u, hm, r, a⟩
theorem tab_some {K : PySem.W.Frag} {x : Str} (h : (PySem.W.tabIn K x).isSome = true) : PySem.W.tabIn K x = some (((PySem.W.tabIn K x).getD (0, 0)).1, ((PySem.W.tabIn K x).getD (0, 0)).2) := by
  obtain ⟨p, e⟩ := Option.isSome_iff_exists.mp h
  rw [e] <;> rfl
theorem tabs_in {ts : List Addr} {h : Heap} {X : Option Obj} {P : Addr} (hts : ∀ P ∈ ts, h.get? P = X) (e : decide (P ∈ ts) = true) : h.get? P = X := hts P (of_decide_eq_true e)
end TL
set_option Elab.async false
set_option linter.all false
set_option maxRecDepth 100000
set_option maxHeartbeats 8000000
/-! all defs and classes, put together. -/
namespace K51
open PySem PySem.Spec PyProof.Rows L2 Gd TL
theorem oki_InvalidNumber {P : Program} {w : World} {K : PySem.W.Frag} {mg : Str → Option Value} {base : Heap} {f : Addr} {fd : FuncData} (F : Fun K "__init__" "InvalidNumber.__init__" s_InvalidNumber_init f fd) : FnOk P w K mg base (L2.CX P w) 1 f fd ["self", "value"] (Xc.spInit K "value") := by
  refine F.okX sc_InvalidNumber_init (fun vs H Q E h => ?_) (fun cdv A outer s H vs Q E hr h => ?_)
  · obtain ⟨a, C, fI, y, rfl, _⟩ := h
    rfl
  obtain ⟨a, C, fI, y, rfl, T, hno, ea, q⟩ := h
  exact ⟨_, pss_one (Xc.ps_set1 (pv 0) (pv 1)), _, rfl, _, rfl, a, C, fI, rfl, T, hno, ea, fun dx nd ne => q dx nd ne⟩
theorem oki_UnknownName {P : Program} {w : World} {K : PySem.W.Frag} {mg : Str → Option Value} {base : Heap} {f : Addr} {fd : FuncData} (F : Fun K "__init__" "UnknownName.__init__" s_UnknownName_init f fd) : FnOk P w K mg base (L2.CX P w) 1 f fd ["self", "name"] (Xc.spInit K "name") := by
  refine F.okX sc_UnknownName_init (fun vs H Q E h => ?_) (fun cdv A outer s H vs Q E hr h => ?_)
  · obtain ⟨a, C, fI, y, rfl, _⟩ := h
    rfl
  obtain ⟨a, C, fI, y, rfl, T, hno, ea, q⟩ := h
  exact ⟨_, pss_one (Xc.ps_set1 (pv 0) (pv 1)), _, rfl, _, rfl, a, C, fI, rfl, T, hno, ea, fun dx nd ne => q dx nd ne⟩
theorem all_E {E : Ev} {base : Heap} {h : Heap} {mg : Str → Option Value} (X : E.K.In h) (G : h.Ns mainGlobals mg)
    {f_is_name : Addr} {dd_is_name : FuncData} {f_is_integer : Addr} {dd_is_integer : FuncData} {f_is_ascending : Addr} {dd_is_ascending : FuncData} {f_is_number : Addr} {dd_is_number : FuncData} {f_is_below : Addr} {dd_is_below : FuncData} {f_is_row : Addr} {dd_is_row : FuncData} {f_is_rows : Addr} {dd_is_rows : FuncData} {f_is_tie : Addr} {dd_is_tie : FuncData} {f_is_ties : Addr} {dd_is_ties : FuncData} {f_sack : Addr} {dd_sack : FuncData} {f_check_book : Addr} {dd_check_book : FuncData} {f_are_alike : Addr} {dd_are_alike : FuncData} {f_check_alike : Addr} {dd_check_alike : FuncData} {f_tuples_of : Addr} {dd_tuples_of : FuncData} {f_does_lead : Addr} {dd_does_lead : FuncData} {f_value_maps : Addr} {dd_value_maps : FuncData} {f_folds : Addr} {dd_folds : FuncData} {f_led_to : Addr} {dd_led_to : FuncData} {f_is_core : Addr} {dd_is_core : FuncData} {f_core_values : Addr} {dd_core_values : FuncData} {f_core_fold : Addr} {dd_core_fold : FuncData} {f_grab : Addr} {dd_grab : FuncData} {f_one_of : Addr} {dd_one_of : FuncData} {f_check_name : Addr} {dd_check_name : FuncData} {f_is_value_map : Addr} {dd_is_value_map : FuncData} {f_core : Addr} {dd_core : FuncData} {f_is_values : Addr} {dd_is_values : FuncData} {f_to_core : Addr} {dd_to_core : FuncData} {f_from_core : Addr} {dd_from_core : FuncData} {f_right : Addr} {dd_right : FuncData} {f_law : Addr} {dd_law : FuncData} {f_met : Addr} {dd_met : FuncData} {f_Book_init : Addr} {dd_Book_init : FuncData} {p_Book_size f_Book_size : Addr} {rest_Book_size : List Value} {dd_Book_size : FuncData} {p_Book_names f_Book_names : Addr} {rest_Book_names : List Value} {dd_Book_names : FuncData} {f_Book_contains : Addr} {dd_Book_contains : FuncData} {f_Book_places : Addr} {dd_Book_places : FuncData} {f_Book_getitem : Addr} {dd_Book_getitem : FuncData} {f_Book_with_tie : Addr} {dd_Book_with_tie : FuncData} {i_InvalidNumber : Addr} {id_InvalidNumber : FuncData} {i_UnknownName : Addr} {id_UnknownName : FuncData} {v_LETTERS : Value} {v_MAX_LETTERS : Value} {v_TOO_LONG : Value} {v_MAX_PLACES : Value} {v_MAX_TIES : Value} {v_VALUES_IN : Value} {v_MAX_VALUES : Value} {cd_right Pt_right : Addr}
    (e_is_name : PySem.W.nsIn E.K mainGlobals "is_name" = some (some (.ref f_is_name)))
    (F_is_name : Fun E.K "is_name" "is_name" s_is_name f_is_name dd_is_name)
    (e_is_integer : PySem.W.nsIn E.K mainGlobals "is_integer" = some (some (.ref f_is_integer)))
    (F_is_integer : Fun E.K "is_integer" "is_integer" s_is_integer f_is_integer dd_is_integer)
    (e_is_ascending : PySem.W.nsIn E.K mainGlobals "is_ascending" = some (some (.ref f_is_ascending)))
    (F_is_ascending : Fun E.K "is_ascending" "is_ascending" s_is_ascending f_is_ascending dd_is_ascending)
    (e_is_number : PySem.W.nsIn E.K mainGlobals "is_number" = some (some (.ref f_is_number)))
    (F_is_number : Fun E.K "is_number" "is_number" s_is_number f_is_number dd_is_number)
    (e_is_below : PySem.W.nsIn E.K mainGlobals "is_below" = some (some (.ref f_is_below)))
    (F_is_below : Fun E.K "is_below" "is_below" s_is_below f_is_below dd_is_below)
    (e_is_row : PySem.W.nsIn E.K mainGlobals "is_row" = some (some (.ref f_is_row)))
    (F_is_row : Fun E.K "is_row" "is_row" s_is_row f_is_row dd_is_row)
    (e_is_rows : PySem.W.nsIn E.K mainGlobals "is_rows" = some (some (.ref f_is_rows)))
    (F_is_rows : Fun E.K "is_rows" "is_rows" s_is_rows f_is_rows dd_is_rows)
    (e_is_tie : PySem.W.nsIn E.K mainGlobals "is_tie" = some (some (.ref f_is_tie)))
    (F_is_tie : Fun E.K "is_tie" "is_tie" s_is_tie f_is_tie dd_is_tie)
    (e_is_ties : PySem.W.nsIn E.K mainGlobals "is_ties" = some (some (.ref f_is_ties)))
    (F_is_ties : Fun E.K "is_ties" "is_ties" s_is_ties f_is_ties dd_is_ties)
    (e_sack : PySem.W.nsIn E.K mainGlobals "_law_sack" = some (some (.ref f_sack)))
    (F_sack : Fun E.K "_law_sack" "_law_sack" s_sack f_sack dd_sack)
    (e_check_book : PySem.W.nsIn E.K mainGlobals "check_book" = some (some (.ref f_check_book)))
    (F_check_book : Fun E.K "check_book" "check_book" s_check_book f_check_book dd_check_book)
    (e_are_alike : PySem.W.nsIn E.K mainGlobals "are_alike" = some (some (.ref f_are_alike)))
    (F_are_alike : Fun E.K "are_alike" "are_alike" s_are_alike f_are_alike dd_are_alike)
    (e_check_alike : PySem.W.nsIn E.K mainGlobals "check_alike" = some (some (.ref f_check_alike)))
    (F_check_alike : Fun E.K "check_alike" "check_alike" s_check_alike f_check_alike dd_check_alike)
    (e_tuples_of : PySem.W.nsIn E.K mainGlobals "tuples_of" = some (some (.ref f_tuples_of)))
    (F_tuples_of : Fun E.K "tuples_of" "tuples_of" s_tuples_of f_tuples_of dd_tuples_of)
    (e_does_lead : PySem.W.nsIn E.K mainGlobals "does_lead" = some (some (.ref f_does_lead)))
    (F_does_lead : Fun E.K "does_lead" "does_lead" s_does_lead f_does_lead dd_does_lead)
    (e_value_maps : PySem.W.nsIn E.K mainGlobals "value_maps" = some (some (.ref f_value_maps)))
    (F_value_maps : Fun E.K "value_maps" "value_maps" s_value_maps f_value_maps dd_value_maps)
    (e_folds : PySem.W.nsIn E.K mainGlobals "folds" = some (some (.ref f_folds)))
    (F_folds : Fun E.K "folds" "folds" s_folds f_folds dd_folds)
    (e_led_to : PySem.W.nsIn E.K mainGlobals "led_to" = some (some (.ref f_led_to)))
    (F_led_to : Fun E.K "led_to" "led_to" s_led_to f_led_to dd_led_to)
    (e_is_core : PySem.W.nsIn E.K mainGlobals "is_core" = some (some (.ref f_is_core)))
    (F_is_core : Fun E.K "is_core" "is_core" s_is_core f_is_core dd_is_core)
    (e_core_values : PySem.W.nsIn E.K mainGlobals "core_values" = some (some (.ref f_core_values)))
    (F_core_values : Fun E.K "core_values" "core_values" s_core_values f_core_values dd_core_values)
    (e_core_fold : PySem.W.nsIn E.K mainGlobals "core_fold" = some (some (.ref f_core_fold)))
    (F_core_fold : Fun E.K "core_fold" "core_fold" s_core_fold f_core_fold dd_core_fold)
    (e_grab : PySem.W.nsIn E.K mainGlobals "_law_grab" = some (some (.ref f_grab)))
    (F_grab : Fun E.K "_law_grab" "_law_grab" s_grab f_grab dd_grab)
    (e_one_of : PySem.W.nsIn E.K mainGlobals "_law_one_of" = some (some (.ref f_one_of)))
    (F_one_of : Fun E.K "_law_one_of" "_law_one_of" s_one_of f_one_of dd_one_of)
    (e_check_name : PySem.W.nsIn E.K mainGlobals "check_name" = some (some (.ref f_check_name)))
    (F_check_name : Fun E.K "check_name" "check_name" s_check_name f_check_name dd_check_name)
    (e_is_value_map : PySem.W.nsIn E.K mainGlobals "is_value_map" = some (some (.ref f_is_value_map)))
    (F_is_value_map : Fun E.K "is_value_map" "is_value_map" s_is_value_map f_is_value_map dd_is_value_map)
    (e_core : PySem.W.nsIn E.K mainGlobals "core" = some (some (.ref f_core)))
    (F_core : Fun E.K "core" "core" s_core f_core dd_core)
    (e_is_values : PySem.W.nsIn E.K mainGlobals "is_values" = some (some (.ref f_is_values)))
    (F_is_values : Fun E.K "is_values" "is_values" s_is_values f_is_values dd_is_values)
    (e_to_core : PySem.W.nsIn E.K mainGlobals "to_core" = some (some (.ref f_to_core)))
    (F_to_core : Fun E.K "to_core" "to_core" s_to_core f_to_core dd_to_core)
    (e_from_core : PySem.W.nsIn E.K mainGlobals "from_core" = some (some (.ref f_from_core)))
    (F_from_core : Fun E.K "from_core" "from_core" s_from_core f_from_core dd_from_core)
    (e_right : PySem.W.nsIn E.K mainGlobals "_law_right" = some (some (.ref f_right)))
    (F_right : Fun E.K "_law_right" "_law_right" s_right f_right dd_right)
    (e_law : PySem.W.nsIn E.K mainGlobals "law" = some (some (.ref f_law)))
    (F_law : Fun E.K "law" "law" s_law f_law dd_law)
    (e_met : PySem.W.nsIn E.K mainGlobals "_law_met" = some (some (.ref f_met)))
    (F_met : Fun E.K "_law_met" "_law_met" s_met f_met dd_met)
    (m_Book : PySem.W.nsIn E.K mainGlobals "Book" = some (some (.ref (E.cm 6))))
    (q_Book_init : PySem.W.findIn E.K (.ref (E.cm 6)) "__init__" = some (some (.ref f_Book_init)))
    (F_Book_init : Fun E.K "__init__" "Book.__init__" s_Book_init f_Book_init dd_Book_init)
    (u_Book_init : fnB E.K f_Book_init = true)
    (q_Book_size : PySem.W.findIn E.K (.ref (E.cm 6)) "size" = some (some (.ref p_Book_size)))
    (r_Book_size : PySem.W.recIn E.K p_Book_size "property" = some (.ref f_Book_size :: rest_Book_size))
    (F_Book_size : Fun E.K "size" "Book.size" s_Book_size f_Book_size dd_Book_size)
    (u_Book_size : prB E.K p_Book_size = true)
    (q_Book_names : PySem.W.findIn E.K (.ref (E.cm 6)) "names" = some (some (.ref p_Book_names)))
    (r_Book_names : PySem.W.recIn E.K p_Book_names "property" = some (.ref f_Book_names :: rest_Book_names))
    (F_Book_names : Fun E.K "names" "Book.names" s_Book_names f_Book_names dd_Book_names)
    (u_Book_names : prB E.K p_Book_names = true)
    (q_Book_contains : PySem.W.findIn E.K (.ref (E.cm 6)) "__contains__" = some (some (.ref f_Book_contains)))
    (F_Book_contains : Fun E.K "__contains__" "Book.__contains__" s_Book_contains f_Book_contains dd_Book_contains)
    (u_Book_contains : fnB E.K f_Book_contains = true)
    (q_Book_places : PySem.W.findIn E.K (.ref (E.cm 6)) "places" = some (some (.ref f_Book_places)))
    (F_Book_places : Fun E.K "places" "Book.places" s_Book_places f_Book_places dd_Book_places)
    (u_Book_places : fnB E.K f_Book_places = true)
    (q_Book_getitem : PySem.W.findIn E.K (.ref (E.cm 6)) "__getitem__" = some (some (.ref f_Book_getitem)))
    (F_Book_getitem : Fun E.K "__getitem__" "Book.__getitem__" s_Book_getitem f_Book_getitem dd_Book_getitem)
    (u_Book_getitem : fnB E.K f_Book_getitem = true)
    (q_Book_with_tie : PySem.W.findIn E.K (.ref (E.cm 6)) "with_tie" = some (some (.ref f_Book_with_tie)))
    (F_Book_with_tie : Fun E.K "with_tie" "Book.with_tie" s_Book_with_tie f_Book_with_tie dd_Book_with_tie)
    (u_Book_with_tie : fnB E.K f_Book_with_tie = true)
    (c_Book : clsB E.K (E.cm 6) ["_size", "_names", "_ties", "_sets"] = true)
    (m_InvalidBook : PySem.W.nsIn E.K mainGlobals "InvalidBook" = some (some (.ref (E.ce 2))))
    (m_InvalidNumber : PySem.W.nsIn E.K mainGlobals "InvalidNumber" = some (some (.ref (E.ce 4))))
    (m_UnknownName : PySem.W.nsIn E.K mainGlobals "UnknownName" = some (some (.ref (E.ce 5))))
    (m_InvalidOperation : PySem.W.nsIn E.K mainGlobals "InvalidOperation" = some (some (.ref (E.ce 3))))
    (m_InvalidName : PySem.W.nsIn E.K mainGlobals "InvalidName" = some (some (.ref (E.ce 1))))
    (m_ChooserError : PySem.W.nsIn E.K mainGlobals "ChooserError" = some (some (.ref (E.ce 0))))
    (i_InvalidNumber_ : PySem.W.findIn E.K (.ref (E.ce 4)) "__init__" = some (some (.ref i_InvalidNumber)))
    (I_InvalidNumber : Fun E.K "__init__" "InvalidNumber.__init__" s_InvalidNumber_init i_InvalidNumber id_InvalidNumber)
    (o_InvalidNumber : ownB E.K (E.ce 4) i_InvalidNumber [.type "IndexError", .type "LookupError", .type "Exception", .type "BaseException", .type "object"] "IndexError.__new__" "value" = true)
    (i_UnknownName_ : PySem.W.findIn E.K (.ref (E.ce 5)) "__init__" = some (some (.ref i_UnknownName)))
    (I_UnknownName : Fun E.K "__init__" "UnknownName.__init__" s_UnknownName_init i_UnknownName id_UnknownName)
    (o_UnknownName : ownB E.K (E.ce 5) i_UnknownName [.type "KeyError", .type "LookupError", .type "Exception", .type "BaseException", .type "object"] "LookupError.__new__" "name" = true)
    (p_InvalidBook : plainB E.K (E.ce 2) [.type "ValueError", .type "Exception", .type "BaseException", .type "object"] "ValueError.__new__" = true)
    (p_InvalidOperation : plainB E.K (E.ce 3) [.type "ValueError", .type "Exception", .type "BaseException", .type "object"] "ValueError.__new__" = true)
    (p_InvalidName : plainB E.K (E.ce 1) [.type "ValueError", .type "Exception", .type "BaseException", .type "object"] "ValueError.__new__" = true)
    (ex_ : exmB E.K E.ce errsL (hlsL.map (·.1)) subB = true)
    (kt_ : kitB E.K E.cm csL = true)
    (n_LETTERS : PySem.W.nsIn E.K mainGlobals "LETTERS" = some (some v_LETTERS))
    (w_LETTERS : (kVal E.K v_LETTERS d_LETTERS).isSome = true)
    (n_MAX_LETTERS : PySem.W.nsIn E.K mainGlobals "MAX_LETTERS" = some (some v_MAX_LETTERS))
    (w_MAX_LETTERS : (kVal E.K v_MAX_LETTERS d_MAX_LETTERS).isSome = true)
    (n_TOO_LONG : PySem.W.nsIn E.K mainGlobals "TOO_LONG" = some (some v_TOO_LONG))
    (w_TOO_LONG : (kVal E.K v_TOO_LONG d_TOO_LONG).isSome = true)
    (n_MAX_PLACES : PySem.W.nsIn E.K mainGlobals "MAX_PLACES" = some (some v_MAX_PLACES))
    (w_MAX_PLACES : (kVal E.K v_MAX_PLACES d_MAX_PLACES).isSome = true)
    (n_MAX_TIES : PySem.W.nsIn E.K mainGlobals "MAX_TIES" = some (some v_MAX_TIES))
    (w_MAX_TIES : (kVal E.K v_MAX_TIES d_MAX_TIES).isSome = true)
    (n_VALUES_IN : PySem.W.nsIn E.K mainGlobals "VALUES_IN" = some (some v_VALUES_IN))
    (w_VALUES_IN : (kVal E.K v_VALUES_IN d_VALUES_IN).isSome = true)
    (n_MAX_VALUES : PySem.W.nsIn E.K mainGlobals "MAX_VALUES" = some (some v_MAX_VALUES))
    (w_MAX_VALUES : (kVal E.K v_MAX_VALUES d_MAX_VALUES).isSome = true)
    (z_isinstance : PySem.W.nsIn E.K mainGlobals "isinstance" = some none)
    (z_int : PySem.W.nsIn E.K mainGlobals "int" = some none)
    (z_bool : PySem.W.nsIn E.K mainGlobals "bool" = some none)
    (z_str : PySem.W.nsIn E.K mainGlobals "str" = some none)
    (z_all : PySem.W.nsIn E.K mainGlobals "all" = some none)
    (z_len : PySem.W.nsIn E.K mainGlobals "len" = some none)
    (z_zip : PySem.W.nsIn E.K mainGlobals "zip" = some none)
    (z_range : PySem.W.nsIn E.K mainGlobals "range" = some none)
    (z_repr : PySem.W.nsIn E.K mainGlobals "repr" = some none)
    (z_tuple : PySem.W.nsIn E.K mainGlobals "tuple" = some none)
    (z_dict : PySem.W.nsIn E.K mainGlobals "dict" = some none)
    (z_sorted : PySem.W.nsIn E.K mainGlobals "sorted" = some none)
    (z_property : PySem.W.nsIn E.K mainGlobals "property" = some none)
    (z_iter : PySem.W.nsIn E.K mainGlobals "iter" = some none)
    (z_list : PySem.W.nsIn E.K mainGlobals "list" = some none)
    (z_set : PySem.W.nsIn E.K mainGlobals "set" = some none)
    (z_min : PySem.W.nsIn E.K mainGlobals "min" = some none)
    (z_enumerate : PySem.W.nsIn E.K mainGlobals "enumerate" = some none)
    (z_max : PySem.W.nsIn E.K mainGlobals "max" = some none)
    (z_abs : PySem.W.nsIn E.K mainGlobals "abs" = some none)
    (t_right : PySem.W.tabIn E.K "_law_right" = some (cd_right, Pt_right))
    (ET : E.T = [(Pt_right, ("_law_right.<locals>.<lambda>" : Str))]) (cm_all : ∀ c, PlainC E.K (E.cm c)) (hTb : ∀ p ∈ ([(cd_right, Pt_right)] : List (Addr × Addr)), LamX.TabB base mg p.1 p.2)
    : FnG E.P E.w E.K mg base (L2.CX E.P E.w) 24 f_law dd_law ["_law_script"] (spP E 1 m_law) := by
  obtain ⟨oc_met, od_met, kV_met, doc_met, pm_met, an_met, cdMet, ct_met, osl_met, fd_met, lk_met, hcd_met⟩ := F_met.ex
  subst fd_met
  have Z_Book := cls_of c_Book
  have B : Blt mg := ⟨PySem.W.mg_none_of X G z_isinstance, PySem.W.mg_none_of X G z_int, PySem.W.mg_none_of X G z_bool, PySem.W.mg_none_of X G z_str, PySem.W.mg_none_of X G z_all, PySem.W.mg_none_of X G z_len, PySem.W.mg_none_of X G z_zip, PySem.W.mg_none_of X G z_range, PySem.W.mg_none_of X G z_repr, PySem.W.mg_none_of X G z_tuple, PySem.W.mg_none_of X G z_dict, PySem.W.mg_none_of X G z_sorted, PySem.W.mg_none_of X G z_property, PySem.W.mg_none_of X G z_iter, PySem.W.mg_none_of X G z_list, PySem.W.mg_none_of X G z_set, PySem.W.mg_none_of X G z_min, PySem.W.mg_none_of X G z_enumerate, PySem.W.mg_none_of X G z_max, PySem.W.mg_none_of X G z_abs⟩
  have TB_right : LamX.TabB base mg cd_right Pt_right := hTb (cd_right, Pt_right) (by simp)
  have TM_right : (Pt_right, ("_law_right.<locals>.<lambda>" : Str)) ∈ E.T := by rw [ET]; simp
  have TU_right : ∀ p ∈ E.T, p.1 = Pt_right → p.2 = ("_law_right.<locals>.<lambda>" : Str) := by
    rw [ET]
    intro p hp e
    simp only [List.mem_cons, List.not_mem_nil, or_false] at hp
    rcases hp with rfl
    · rfl
  have CO : ClsOk E := ⟨fun {F a dx c fs} _ => cm_all c⟩
  have KT : KitOk E csL := kit_of kt_ fun c hc => by
    simp only [csL, List.mem_cons, List.not_mem_nil, or_false] at hc
    rcases hc with rfl
    · exact ⟨_, Z_Book⟩
  have K_LETTERS : GlD E mg "LETTERS" d_LETTERS := gl_of (PySem.W.mg_of X G n_LETTERS) w_LETTERS
  have K_MAX_LETTERS : GlD E mg "MAX_LETTERS" d_MAX_LETTERS := gl_of (PySem.W.mg_of X G n_MAX_LETTERS) w_MAX_LETTERS
  have K_TOO_LONG : GlD E mg "TOO_LONG" d_TOO_LONG := gl_of (PySem.W.mg_of X G n_TOO_LONG) w_TOO_LONG
  have K_MAX_PLACES : GlD E mg "MAX_PLACES" d_MAX_PLACES := gl_of (PySem.W.mg_of X G n_MAX_PLACES) w_MAX_PLACES
  have K_MAX_TIES : GlD E mg "MAX_TIES" d_MAX_TIES := gl_of (PySem.W.mg_of X G n_MAX_TIES) w_MAX_TIES
  have K_VALUES_IN : GlD E mg "VALUES_IN" d_VALUES_IN := gl_of (PySem.W.mg_of X G n_VALUES_IN) w_VALUES_IN
  have K_MAX_VALUES : GlD E mg "MAX_VALUES" d_MAX_VALUES := gl_of (PySem.W.mg_of X G n_MAX_VALUES) w_MAX_VALUES
  have R_InvalidBook : Er1 E.K mg E "InvalidBook" 2 := er1_of PySem.F.excBase_ValueError p_InvalidBook (PySem.W.mg_of X G m_InvalidBook) (by decide)
  have O_InvalidNumber := own_of PySem.F.excBase_IndexError Xc.bases_IE o_InvalidNumber
  have R_InvalidNumber : ErI E.P E.w E.K mg base E 1 "InvalidNumber" 4 "value" := ⟨i_InvalidNumber, id_InvalidNumber, _, O_InvalidNumber.1, oki_InvalidNumber I_InvalidNumber, O_InvalidNumber.2, I_InvalidNumber.binds fun _ _ _ _ _ _ us hl => match us, hl with | [_, _], _ => rfl, PySem.W.mg_of X G m_InvalidNumber, by decide⟩
  have O_UnknownName := own_of PySem.F.excBase_LookupError Xc.bases_KE o_UnknownName
  have R_UnknownName : ErI E.P E.w E.K mg base E 1 "UnknownName" 5 "name" := ⟨i_UnknownName, id_UnknownName, _, O_UnknownName.1, oki_UnknownName I_UnknownName, O_UnknownName.2, I_UnknownName.binds fun _ _ _ _ _ _ us hl => match us, hl with | [_, _], _ => rfl, PySem.W.mg_of X G m_UnknownName, by decide⟩
  have R_InvalidOperation : Er1 E.K mg E "InvalidOperation" 3 := er1_of PySem.F.excBase_ValueError p_InvalidOperation (PySem.W.mg_of X G m_InvalidOperation) (by decide)
  have R_InvalidName : Er1 E.K mg E "InvalidName" 1 := er1_of PySem.F.excBase_ValueError p_InvalidName (PySem.W.mg_of X G m_InvalidName) (by decide)
  have GM : GivesMet E mg base f_met cdMet := gives_met B (PySem.W.mg_of X G m_InvalidBook) (PySem.W.mg_of X G m_InvalidOperation) (PySem.W.mg_of X G m_ChooserError)  
  have MD : MetDef E.K mg "_law_met" "_law_action" f_met nm_met (defBody s_met) (defScope s_met) cdMet := ⟨PySem.W.mg_of X G e_met, F_met.kp, ⟨_, _, kV_met, doc_met, pm_met, ct_met, oc_met, an_met, od_met, osl_met, lk_met, F_met.binds fun _ _ _ _ _ _ us hl => match us, hl with | [_], _ => rfl⟩, hcd_met, sc_met, rfl, by first | exact Or.inl rfl | exact Or.inr (Or.inl rfl) | exact Or.inr (Or.inr rfl)⟩
  have SB := exm_of ex_
  have O_is_name := ok_is_name (E := E) (mg := mg) (base := base) F_is_name CO KT B K_LETTERS K_MAX_LETTERS
  have H_is_name : HasT E mg base 1 "is_name" ["value"] (spP E 1 m_is_name) := ⟨f_is_name, dd_is_name, O_is_name, PySem.W.mg_of X G e_is_name, F_is_name.kp, F_is_name.binds fun _ _ _ _ _ _ us hl => match us, hl with | [_], _ => rfl⟩
  have O_is_integer := ok_is_integer (E := E) (mg := mg) (base := base) F_is_integer CO KT B K_TOO_LONG
  have H_is_integer : HasT E mg base 1 "is_integer" ["value"] (spP E 1 m_is_integer) := ⟨f_is_integer, dd_is_integer, O_is_integer, PySem.W.mg_of X G e_is_integer, F_is_integer.kp, F_is_integer.binds fun _ _ _ _ _ _ us hl => match us, hl with | [_], _ => rfl⟩
  have O_is_ascending := ok_is_ascending (E := E) (mg := mg) (base := base) F_is_ascending B
  have H_is_ascending : HasT E mg base 1 "is_ascending" ["values"] (spP E 1 m_is_ascending) := ⟨f_is_ascending, dd_is_ascending, O_is_ascending, PySem.W.mg_of X G e_is_ascending, F_is_ascending.kp, F_is_ascending.binds fun _ _ _ _ _ _ us hl => match us, hl with | [_], _ => rfl⟩
  have O_is_number := ok_is_number (E := E) (mg := mg) (base := base) F_is_number H_is_integer
  have H_is_number : HasT E mg base 2 "is_number" ["value"] (spP E 1 m_is_number) := ⟨f_is_number, dd_is_number, O_is_number, PySem.W.mg_of X G e_is_number, F_is_number.kp, F_is_number.binds fun _ _ _ _ _ _ us hl => match us, hl with | [_], _ => rfl⟩
  have O_is_below := ok_is_below (E := E) (mg := mg) (base := base) F_is_below H_is_number
  have H_is_below : HasT E mg base 3 "is_below" ["value", "limit"] (spP E 2 m_is_below) := ⟨f_is_below, dd_is_below, O_is_below, PySem.W.mg_of X G e_is_below, F_is_below.kp, F_is_below.binds fun _ _ _ _ _ _ us hl => match us, hl with | [_, _], _ => rfl⟩
  have O_is_row := ok_is_row (E := E) (mg := mg) (base := base) F_is_row CO KT B H_is_below
  have H_is_row : HasT E mg base 4 "is_row" ["size", "places", "value"] (spP E 3 m_is_row) := ⟨f_is_row, dd_is_row, O_is_row, PySem.W.mg_of X G e_is_row, F_is_row.kp, F_is_row.binds fun _ _ _ _ _ _ us hl => match us, hl with | [_, _, _], _ => rfl⟩
  have O_is_rows := ok_is_rows (E := E) (mg := mg) (base := base) F_is_rows CO KT B H_is_ascending H_is_row
  have H_is_rows : HasT E mg base 5 "is_rows" ["size", "places", "value"] (spP E 3 m_is_rows) := ⟨f_is_rows, dd_is_rows, O_is_rows, PySem.W.mg_of X G e_is_rows, F_is_rows.kp, F_is_rows.binds fun _ _ _ _ _ _ us hl => match us, hl with | [_, _, _], _ => rfl⟩
  have O_is_tie := ok_is_tie (E := E) (mg := mg) (base := base) F_is_tie CO KT B H_is_rows H_is_integer K_MAX_PLACES
  have H_is_tie : HasT E mg base 6 "is_tie" ["size", "value"] (spP E 2 m_is_tie) := ⟨f_is_tie, dd_is_tie, O_is_tie, PySem.W.mg_of X G e_is_tie, F_is_tie.kp, F_is_tie.binds fun _ _ _ _ _ _ us hl => match us, hl with | [_, _], _ => rfl⟩
  have O_is_ties := ok_is_ties (E := E) (mg := mg) (base := base) F_is_ties CO KT B H_is_tie H_is_name K_MAX_TIES
  have H_is_ties : HasT E mg base 7 "is_ties" ["size", "value"] (spP E 2 m_is_ties) := ⟨f_is_ties, dd_is_ties, O_is_ties, PySem.W.mg_of X G e_is_ties, F_is_ties.kp, F_is_ties.binds fun _ _ _ _ _ _ us hl => match us, hl with | [_, _], _ => rfl⟩
  have F__sets_ : FldOk E csL "_sets" := fun c hc => by
    simp only [csL, List.mem_cons, List.not_mem_nil, or_false] at hc
    rcases hc with rfl
    · exact ⟨Z_Book.cl, Z_Book.na _ (by simp)⟩
  have A__names : AtOk E.P E.w E.K mg base E 0 tb__names "_names" := (at_fld (c := 6) Z_Book.cl (Z_Book.na _ (by simp)) at_nil)
  have F__ties_ : FldOk E csL "_ties" := fun c hc => by
    simp only [csL, List.mem_cons, List.not_mem_nil, or_false] at hc
    rcases hc with rfl
    · exact ⟨Z_Book.cl, Z_Book.na _ (by simp)⟩
  have F__names_ : FldOk E csL "_names" := fun c hc => by
    simp only [csL, List.mem_cons, List.not_mem_nil, or_false] at hc
    rcases hc with rfl
    · exact ⟨Z_Book.cl, Z_Book.na _ (by simp)⟩
  have F__size_ : FldOk E csL "_size" := fun c hc => by
    simp only [csL, List.mem_cons, List.not_mem_nil, or_false] at hc
    rcases hc with rfl
    · exact ⟨Z_Book.cl, Z_Book.na _ (by simp)⟩
  have O_Book_init := ok_Book_init (E := E) (mg := mg) (base := base) F_Book_init B H_is_ties H_is_integer K_VALUES_IN K_MAX_VALUES F__sets_ A__names F__ties_ F__names_ F__size_ R_InvalidBook R_InvalidNumber
  have O_sack := ok_sack (E := E) (mg := mg) (base := base) F_sack B
  have H_sack : HasT E mg base 1 "_law_sack" ["_law_script", "_law_at"] (spN E 2 m_sack) := ⟨f_sack, dd_sack, O_sack, PySem.W.mg_of X G e_sack, F_sack.kp, F_sack.binds fun _ _ _ _ _ _ us hl => match us, hl with | [_, _], _ => rfl⟩
  have A__size : AtOk E.P E.w E.K mg base E 0 tb__size "_size" := (at_fld (c := 6) Z_Book.cl (Z_Book.na _ (by simp)) at_nil)
  have O_Book_size := ok_Book_size (E := E) (mg := mg) (base := base) F_Book_size A__size
  have gc_Book : mg "Book" = some (.ref (E.cm 6)) := PySem.W.mg_of X G m_Book
  have O_check_book := ok_check_book (E := E) (mg := mg) (base := base) F_check_book CO KT B gc_Book R_InvalidBook
  have H_check_book : HasT E mg base 1 "check_book" ["book"] (spP E 1 m_check_book) := ⟨f_check_book, dd_check_book, O_check_book, PySem.W.mg_of X G e_check_book, F_check_book.kp, F_check_book.binds fun _ _ _ _ _ _ us hl => match us, hl with | [_], _ => rfl⟩
  have O_Book_names := ok_Book_names (E := E) (mg := mg) (base := base) F_Book_names A__names
  have A__ties : AtOk E.P E.w E.K mg base E 0 tb__ties "_ties" := (at_fld (c := 6) Z_Book.cl (Z_Book.na _ (by simp)) at_nil)
  have O_Book_contains := ok_Book_contains (E := E) (mg := mg) (base := base) F_Book_contains CO KT B A__ties
  have D_contains : DnOk E.P E.w E.K mg base E 2 2 tb_contains "__contains__" := (dn_cons (c := 6) (j := 2) ⟨q_Book_contains, (ba2 u_Book_contains).1, (ba2 u_Book_contains).2⟩ O_Book_contains (by decide) (F_Book_contains.binds fun _ _ _ _ _ _ us hl => match us, hl with | [_, _], _ => rfl) fm_P dn_nil)
  have O_Book_places := ok_Book_places (E := E) (mg := mg) (base := base) F_Book_places A__ties D_contains R_UnknownName
  have A_names : AtOk E.P E.w E.K mg base E 2 tb_names "names" := (at_prp (c := 6) (j := 2) (m := m_Book_names) Z_Book.cl ⟨q_Book_names, of_decide_eq_true (ba2 u_Book_names).1, of_decide_eq_true (ba2 u_Book_names).2, ⟨_, r_Book_names⟩⟩ O_Book_names (by decide) (F_Book_names.binds fun _ _ _ _ _ _ us hl => match us, hl with | [_], _ => rfl) at_nil)
  have M_places : MtOk E.P E.w E.K mg base E 3 2 tm_places "places" := (mt_cons (c := 6) (j := 3) Z_Book.cl ⟨q_Book_places, (ba2 u_Book_places).1, F_Book_places.kp⟩ O_Book_places (by decide) (F_Book_places.binds fun _ _ _ _ _ _ us hl => match us, hl with | [_, _], _ => rfl) fm_P mt_nil)
  have O_are_alike := ok_are_alike (E := E) (mg := mg) (base := base) F_are_alike B A_names M_places
  have H_are_alike : HasT E mg base 4 "are_alike" ["one", "other"] (spP E 2 m_are_alike) := ⟨f_are_alike, dd_are_alike, O_are_alike, PySem.W.mg_of X G e_are_alike, F_are_alike.kp, F_are_alike.binds fun _ _ _ _ _ _ us hl => match us, hl with | [_, _], _ => rfl⟩
  have O_check_alike := ok_check_alike (E := E) (mg := mg) (base := base) F_check_alike H_are_alike H_check_book R_InvalidOperation
  have H_check_alike : HasT E mg base 5 "check_alike" ["one", "other"] (spP E 2 m_check_alike) := ⟨f_check_alike, dd_check_alike, O_check_alike, PySem.W.mg_of X G e_check_alike, F_check_alike.kp, F_check_alike.binds fun _ _ _ _ _ _ us hl => match us, hl with | [_, _], _ => rfl⟩
  have O_tuples_of := ok_tuples_of (E := E) (mg := mg) (base := base) F_tuples_of B
  have H_tuples_of : HasT E mg base 1 "tuples_of" ["parts", "length"] (spP E 2 m_tuples_of) := ⟨f_tuples_of, dd_tuples_of, O_tuples_of, PySem.W.mg_of X G e_tuples_of, F_tuples_of.kp, F_tuples_of.binds fun _ _ _ _ _ _ us hl => match us, hl with | [_, _], _ => rfl⟩
  have O_Book_getitem := ok_Book_getitem (E := E) (mg := mg) (base := base) F_Book_getitem A__ties D_contains R_UnknownName
  have D_getitem : DnOk E.P E.w E.K mg base E 3 2 tb_getitem "__getitem__" := (dn_cons (c := 6) (j := 3) ⟨q_Book_getitem, (ba2 u_Book_getitem).1, (ba2 u_Book_getitem).2⟩ O_Book_getitem (by decide) (F_Book_getitem.binds fun _ _ _ _ _ _ us hl => match us, hl with | [_, _], _ => rfl) fm_P dn_nil)
  have O_does_lead := ok_does_lead (E := E) (mg := mg) (base := base) F_does_lead B A_names D_getitem
  have H_does_lead : HasT E mg base 5 "does_lead" ["one", "other", "values"] (spP E 3 m_does_lead) := ⟨f_does_lead, dd_does_lead, O_does_lead, PySem.W.mg_of X G e_does_lead, F_does_lead.kp, F_does_lead.binds fun _ _ _ _ _ _ us hl => match us, hl with | [_, _, _], _ => rfl⟩
  have A_size : AtOk E.P E.w E.K mg base E 2 tb_size "size" := (at_prp (c := 6) (j := 2) (m := m_Book_size) Z_Book.cl ⟨q_Book_size, of_decide_eq_true (ba2 u_Book_size).1, of_decide_eq_true (ba2 u_Book_size).2, ⟨_, r_Book_size⟩⟩ O_Book_size (by decide) (F_Book_size.binds fun _ _ _ _ _ _ us hl => match us, hl with | [_], _ => rfl) at_nil)
  have O_value_maps := ok_value_maps (E := E) (mg := mg) (base := base) F_value_maps B H_does_lead H_tuples_of H_check_alike A_size
  have H_value_maps : HasT E mg base 6 "value_maps" ["one", "other"] (spP E 2 m_value_maps) := ⟨f_value_maps, dd_value_maps, O_value_maps, PySem.W.mg_of X G e_value_maps, F_value_maps.kp, F_value_maps.binds fun _ _ _ _ _ _ us hl => match us, hl with | [_, _], _ => rfl⟩
  have O_folds := ok_folds (E := E) (mg := mg) (base := base) F_folds H_value_maps
  have H_folds : HasT E mg base 7 "folds" ["book"] (spP E 1 m_folds) := ⟨f_folds, dd_folds, O_folds, PySem.W.mg_of X G e_folds, F_folds.kp, F_folds.binds fun _ _ _ _ _ _ us hl => match us, hl with | [_], _ => rfl⟩
  have O_led_to := ok_led_to (E := E) (mg := mg) (base := base) F_led_to B
  have H_led_to : HasT E mg base 1 "led_to" ["values"] (spP E 1 m_led_to) := ⟨f_led_to, dd_led_to, O_led_to, PySem.W.mg_of X G e_led_to, F_led_to.kp, F_led_to.binds fun _ _ _ _ _ _ us hl => match us, hl with | [_], _ => rfl⟩
  have O_is_core := ok_is_core (E := E) (mg := mg) (base := base) F_is_core B H_folds H_led_to A_size
  have H_is_core : HasT E mg base 8 "is_core" ["book"] (spP E 1 m_is_core) := ⟨f_is_core, dd_is_core, O_is_core, PySem.W.mg_of X G e_is_core, F_is_core.kp, F_is_core.binds fun _ _ _ _ _ _ us hl => match us, hl with | [_], _ => rfl⟩
  have O_core_values := ok_core_values (E := E) (mg := mg) (base := base) F_core_values B H_folds H_led_to
  have H_core_values : HasT E mg base 8 "core_values" ["book"] (spP E 1 m_core_values) := ⟨f_core_values, dd_core_values, O_core_values, PySem.W.mg_of X G e_core_values, F_core_values.kp, F_core_values.binds fun _ _ _ _ _ _ us hl => match us, hl with | [_], _ => rfl⟩
  have O_core_fold := ok_core_fold (E := E) (mg := mg) (base := base) F_core_fold B H_folds H_led_to H_core_values
  have H_core_fold : HasT E mg base 9 "core_fold" ["book"] (spP E 1 m_core_fold) := ⟨f_core_fold, dd_core_fold, O_core_fold, PySem.W.mg_of X G e_core_fold, F_core_fold.kp, F_core_fold.binds fun _ _ _ _ _ _ us hl => match us, hl with | [_], _ => rfl⟩
  have O_grab := ok_grab (E := E) (mg := mg) (base := base) F_grab B
  have H_grab : HasT E mg base 1 "_law_grab" ["_law_sack_here", "_law_total"] (spC E 2 m_grab) := ⟨f_grab, dd_grab, O_grab, PySem.W.mg_of X G e_grab, F_grab.kp, F_grab.binds fun _ _ _ _ _ _ us hl => match us, hl with | [_, _], _ => rfl⟩
  have O_one_of := ok_one_of (E := E) (mg := mg) (base := base) F_one_of B H_grab
  have H_one_of : HasT E mg base 2 "_law_one_of" ["_law_sack_here", "_law_items"] (spC E 2 m_one_of) := ⟨f_one_of, dd_one_of, O_one_of, PySem.W.mg_of X G e_one_of, F_one_of.kp, F_one_of.binds fun _ _ _ _ _ _ us hl => match us, hl with | [_, _], _ => rfl⟩
  have O_check_name := ok_check_name (E := E) (mg := mg) (base := base) F_check_name H_is_name R_InvalidName
  have H_check_name : HasT E mg base 2 "check_name" ["name"] (spP E 1 m_check_name) := ⟨f_check_name, dd_check_name, O_check_name, PySem.W.mg_of X G e_check_name, F_check_name.kp, F_check_name.binds fun _ _ _ _ _ _ us hl => match us, hl with | [_], _ => rfl⟩
  have I_Book_ : MkT E mg base 8 6 3 "Book" m_Book_init := ⟨⟨f_Book_init, dd_Book_init, _, ⟨Z_Book.ms, q_Book_init, (ba2 u_Book_init).1, Z_Book.kp⟩, O_Book_init, F_Book_init.binds fun _ _ _ _ _ _ us hl => match us, hl with | [_, _, _], _ => rfl⟩, PySem.W.mg_of X G m_Book⟩
  have O_Book_with_tie := ok_Book_with_tie (E := E) (mg := mg) (base := base) F_Book_with_tie B H_check_name I_Book_ A__size A__ties
  have O_is_value_map := ok_is_value_map (E := E) (mg := mg) (base := base) F_is_value_map H_does_lead H_is_row H_check_alike A_size
  have H_is_value_map : HasT E mg base 6 "is_value_map" ["one", "other", "value"] (spP E 3 m_is_value_map) := ⟨f_is_value_map, dd_is_value_map, O_is_value_map, PySem.W.mg_of X G e_is_value_map, F_is_value_map.kp, F_is_value_map.binds fun _ _ _ _ _ _ us hl => match us, hl with | [_, _, _], _ => rfl⟩
  have O_core := ok_core (E := E) (mg := mg) (base := base) F_core B H_core_values I_Book_ A_names M_places D_getitem
  have H_core : HasT E mg base 10 "core" ["book"] (spP E 1 m_core) := ⟨f_core, dd_core, O_core, PySem.W.mg_of X G e_core, F_core.kp, F_core.binds fun _ _ _ _ _ _ us hl => match us, hl with | [_], _ => rfl⟩
  have O_is_values := ok_is_values (E := E) (mg := mg) (base := base) F_is_values CO KT B H_is_below
  have H_is_values : HasT E mg base 4 "is_values" ["size", "value"] (spP E 2 m_is_values) := ⟨f_is_values, dd_is_values, O_is_values, PySem.W.mg_of X G e_is_values, F_is_values.kp, F_is_values.binds fun _ _ _ _ _ _ us hl => match us, hl with | [_, _], _ => rfl⟩
  have O_to_core := ok_to_core (E := E) (mg := mg) (base := base) F_to_core B H_core_fold H_core_values H_is_values H_check_book A_size R_InvalidOperation
  have H_to_core : HasT E mg base 10 "to_core" ["book", "values"] (spP E 2 m_to_core) := ⟨f_to_core, dd_to_core, O_to_core, PySem.W.mg_of X G e_to_core, F_to_core.kp, F_to_core.binds fun _ _ _ _ _ _ us hl => match us, hl with | [_, _], _ => rfl⟩
  have O_from_core := ok_from_core (E := E) (mg := mg) (base := base) F_from_core B H_is_values H_core_values R_InvalidOperation
  have H_from_core : HasT E mg base 9 "from_core" ["book", "values"] (spP E 2 m_from_core) := ⟨f_from_core, dd_from_core, O_from_core, PySem.W.mg_of X G e_from_core, F_from_core.kp, F_from_core.binds fun _ _ _ _ _ _ us hl => match us, hl with | [_, _], _ => rfl⟩
  have M_with_tie : MtOk E.P E.w E.K mg base E 10 4 tm_with_tie "with_tie" := (mt_cons (c := 6) (j := 10) Z_Book.cl ⟨q_Book_with_tie, (ba2 u_Book_with_tie).1, F_Book_with_tie.kp⟩ O_Book_with_tie (by decide) (F_Book_with_tie.binds fun _ _ _ _ _ _ us hl => match us, hl with | [_, _, _, _], _ => rfl) fm_P mt_nil)
  have O_right := ok_right (E := E) (mg := mg) (base := base) F_right (code_fun e_right F_right t_right) GM H_from_core H_to_core H_is_value_map H_value_maps H_core_fold H_core_values H_core H_is_core H_folds H_one_of MD SB TB_right TM_right TU_right M_with_tie I_Book_ A_names
  have H_right : HasG E mg base 23 "_law_right" ["_law_sack_here", "_law_path", "_law_two"] (spC E 3 m_right) := ⟨f_right, dd_right, O_right, PySem.W.mg_of X G e_right, F_right.kp, F_right.binds fun _ _ _ _ _ _ us hl => match us, hl with | [_, _, _], _ => rfl⟩
  exact ok_law (E := E) (base := base) F_law B H_is_core H_core_fold H_value_maps H_right H_sack I_Book_
theorem all_mk {l : PySem.W.OpenLaw} {w : World} {K : PySem.W.Frag} {h : Heap} {mg : Str → Option Value} {fa : Addr} (X : K.In h) (G : h.Ns mainGlobals mg) (hfa : mg "law" = some (.ref fa))
    {f_is_name : Addr} {dd_is_name : FuncData} {f_is_integer : Addr} {dd_is_integer : FuncData} {f_is_ascending : Addr} {dd_is_ascending : FuncData} {f_is_number : Addr} {dd_is_number : FuncData} {f_is_below : Addr} {dd_is_below : FuncData} {f_is_row : Addr} {dd_is_row : FuncData} {f_is_rows : Addr} {dd_is_rows : FuncData} {f_is_tie : Addr} {dd_is_tie : FuncData} {f_is_ties : Addr} {dd_is_ties : FuncData} {f_sack : Addr} {dd_sack : FuncData} {f_check_book : Addr} {dd_check_book : FuncData} {f_are_alike : Addr} {dd_are_alike : FuncData} {f_check_alike : Addr} {dd_check_alike : FuncData} {f_tuples_of : Addr} {dd_tuples_of : FuncData} {f_does_lead : Addr} {dd_does_lead : FuncData} {f_value_maps : Addr} {dd_value_maps : FuncData} {f_folds : Addr} {dd_folds : FuncData} {f_led_to : Addr} {dd_led_to : FuncData} {f_is_core : Addr} {dd_is_core : FuncData} {f_core_values : Addr} {dd_core_values : FuncData} {f_core_fold : Addr} {dd_core_fold : FuncData} {f_grab : Addr} {dd_grab : FuncData} {f_one_of : Addr} {dd_one_of : FuncData} {f_check_name : Addr} {dd_check_name : FuncData} {f_is_value_map : Addr} {dd_is_value_map : FuncData} {f_core : Addr} {dd_core : FuncData} {f_is_values : Addr} {dd_is_values : FuncData} {f_to_core : Addr} {dd_to_core : FuncData} {f_from_core : Addr} {dd_from_core : FuncData} {f_right : Addr} {dd_right : FuncData} {f_law : Addr} {dd_law : FuncData} {f_met : Addr} {dd_met : FuncData} {C_Book : Addr} {f_Book_init : Addr} {dd_Book_init : FuncData} {p_Book_size f_Book_size : Addr} {rest_Book_size : List Value} {dd_Book_size : FuncData} {p_Book_names f_Book_names : Addr} {rest_Book_names : List Value} {dd_Book_names : FuncData} {f_Book_contains : Addr} {dd_Book_contains : FuncData} {f_Book_places : Addr} {dd_Book_places : FuncData} {f_Book_getitem : Addr} {dd_Book_getitem : FuncData} {f_Book_with_tie : Addr} {dd_Book_with_tie : FuncData} {C_InvalidBook : Addr} {C_InvalidNumber : Addr} {C_UnknownName : Addr} {C_InvalidOperation : Addr} {C_InvalidName : Addr} {C_ChooserError : Addr} {i_InvalidNumber : Addr} {id_InvalidNumber : FuncData} {i_UnknownName : Addr} {id_UnknownName : FuncData} {v_LETTERS : Value} {v_MAX_LETTERS : Value} {v_TOO_LONG : Value} {v_MAX_PLACES : Value} {v_MAX_TIES : Value} {v_VALUES_IN : Value} {v_MAX_VALUES : Value} {cd_right Pt_right : Addr}
    (e_is_name : PySem.W.nsIn K mainGlobals "is_name" = some (some (.ref f_is_name)))
    (F_is_name : Fun K "is_name" "is_name" s_is_name f_is_name dd_is_name)
    (e_is_integer : PySem.W.nsIn K mainGlobals "is_integer" = some (some (.ref f_is_integer)))
    (F_is_integer : Fun K "is_integer" "is_integer" s_is_integer f_is_integer dd_is_integer)
    (e_is_ascending : PySem.W.nsIn K mainGlobals "is_ascending" = some (some (.ref f_is_ascending)))
    (F_is_ascending : Fun K "is_ascending" "is_ascending" s_is_ascending f_is_ascending dd_is_ascending)
    (e_is_number : PySem.W.nsIn K mainGlobals "is_number" = some (some (.ref f_is_number)))
    (F_is_number : Fun K "is_number" "is_number" s_is_number f_is_number dd_is_number)
    (e_is_below : PySem.W.nsIn K mainGlobals "is_below" = some (some (.ref f_is_below)))
    (F_is_below : Fun K "is_below" "is_below" s_is_below f_is_below dd_is_below)
    (e_is_row : PySem.W.nsIn K mainGlobals "is_row" = some (some (.ref f_is_row)))
    (F_is_row : Fun K "is_row" "is_row" s_is_row f_is_row dd_is_row)
    (e_is_rows : PySem.W.nsIn K mainGlobals "is_rows" = some (some (.ref f_is_rows)))
    (F_is_rows : Fun K "is_rows" "is_rows" s_is_rows f_is_rows dd_is_rows)
    (e_is_tie : PySem.W.nsIn K mainGlobals "is_tie" = some (some (.ref f_is_tie)))
    (F_is_tie : Fun K "is_tie" "is_tie" s_is_tie f_is_tie dd_is_tie)
    (e_is_ties : PySem.W.nsIn K mainGlobals "is_ties" = some (some (.ref f_is_ties)))
    (F_is_ties : Fun K "is_ties" "is_ties" s_is_ties f_is_ties dd_is_ties)
    (e_sack : PySem.W.nsIn K mainGlobals "_law_sack" = some (some (.ref f_sack)))
    (F_sack : Fun K "_law_sack" "_law_sack" s_sack f_sack dd_sack)
    (e_check_book : PySem.W.nsIn K mainGlobals "check_book" = some (some (.ref f_check_book)))
    (F_check_book : Fun K "check_book" "check_book" s_check_book f_check_book dd_check_book)
    (e_are_alike : PySem.W.nsIn K mainGlobals "are_alike" = some (some (.ref f_are_alike)))
    (F_are_alike : Fun K "are_alike" "are_alike" s_are_alike f_are_alike dd_are_alike)
    (e_check_alike : PySem.W.nsIn K mainGlobals "check_alike" = some (some (.ref f_check_alike)))
    (F_check_alike : Fun K "check_alike" "check_alike" s_check_alike f_check_alike dd_check_alike)
    (e_tuples_of : PySem.W.nsIn K mainGlobals "tuples_of" = some (some (.ref f_tuples_of)))
    (F_tuples_of : Fun K "tuples_of" "tuples_of" s_tuples_of f_tuples_of dd_tuples_of)
    (e_does_lead : PySem.W.nsIn K mainGlobals "does_lead" = some (some (.ref f_does_lead)))
    (F_does_lead : Fun K "does_lead" "does_lead" s_does_lead f_does_lead dd_does_lead)
    (e_value_maps : PySem.W.nsIn K mainGlobals "value_maps" = some (some (.ref f_value_maps)))
    (F_value_maps : Fun K "value_maps" "value_maps" s_value_maps f_value_maps dd_value_maps)
    (e_folds : PySem.W.nsIn K mainGlobals "folds" = some (some (.ref f_folds)))
    (F_folds : Fun K "folds" "folds" s_folds f_folds dd_folds)
    (e_led_to : PySem.W.nsIn K mainGlobals "led_to" = some (some (.ref f_led_to)))
    (F_led_to : Fun K "led_to" "led_to" s_led_to f_led_to dd_led_to)
    (e_is_core : PySem.W.nsIn K mainGlobals "is_core" = some (some (.ref f_is_core)))
    (F_is_core : Fun K "is_core" "is_core" s_is_core f_is_core dd_is_core)
    (e_core_values : PySem.W.nsIn K mainGlobals "core_values" = some (some (.ref f_core_values)))
    (F_core_values : Fun K "core_values" "core_values" s_core_values f_core_values dd_core_values)
    (e_core_fold : PySem.W.nsIn K mainGlobals "core_fold" = some (some (.ref f_core_fold)))
    (F_core_fold : Fun K "core_fold" "core_fold" s_core_fold f_core_fold dd_core_fold)
    (e_grab : PySem.W.nsIn K mainGlobals "_law_grab" = some (some (.ref f_grab)))
    (F_grab : Fun K "_law_grab" "_law_grab" s_grab f_grab dd_grab)
    (e_one_of : PySem.W.nsIn K mainGlobals "_law_one_of" = some (some (.ref f_one_of)))
    (F_one_of : Fun K "_law_one_of" "_law_one_of" s_one_of f_one_of dd_one_of)
    (e_check_name : PySem.W.nsIn K mainGlobals "check_name" = some (some (.ref f_check_name)))
    (F_check_name : Fun K "check_name" "check_name" s_check_name f_check_name dd_check_name)
    (e_is_value_map : PySem.W.nsIn K mainGlobals "is_value_map" = some (some (.ref f_is_value_map)))
    (F_is_value_map : Fun K "is_value_map" "is_value_map" s_is_value_map f_is_value_map dd_is_value_map)
    (e_core : PySem.W.nsIn K mainGlobals "core" = some (some (.ref f_core)))
    (F_core : Fun K "core" "core" s_core f_core dd_core)
    (e_is_values : PySem.W.nsIn K mainGlobals "is_values" = some (some (.ref f_is_values)))
    (F_is_values : Fun K "is_values" "is_values" s_is_values f_is_values dd_is_values)
    (e_to_core : PySem.W.nsIn K mainGlobals "to_core" = some (some (.ref f_to_core)))
    (F_to_core : Fun K "to_core" "to_core" s_to_core f_to_core dd_to_core)
    (e_from_core : PySem.W.nsIn K mainGlobals "from_core" = some (some (.ref f_from_core)))
    (F_from_core : Fun K "from_core" "from_core" s_from_core f_from_core dd_from_core)
    (e_right : PySem.W.nsIn K mainGlobals "_law_right" = some (some (.ref f_right)))
    (F_right : Fun K "_law_right" "_law_right" s_right f_right dd_right)
    (e_law : PySem.W.nsIn K mainGlobals "law" = some (some (.ref f_law)))
    (F_law : Fun K "law" "law" s_law f_law dd_law)
    (e_met : PySem.W.nsIn K mainGlobals "_law_met" = some (some (.ref f_met)))
    (F_met : Fun K "_law_met" "_law_met" s_met f_met dd_met)
    (bl : ∀ (s : Shared) (v : Value), BindsTo s dd_law ⟨[v], []⟩ [("_law_script", v)])
    (m_Book : PySem.W.nsIn K mainGlobals "Book" = some (some (.ref C_Book)))
    (q_Book_init : PySem.W.findIn K (.ref C_Book) "__init__" = some (some (.ref f_Book_init)))
    (F_Book_init : Fun K "__init__" "Book.__init__" s_Book_init f_Book_init dd_Book_init)
    (u_Book_init : fnB K f_Book_init = true)
    (q_Book_size : PySem.W.findIn K (.ref C_Book) "size" = some (some (.ref p_Book_size)))
    (r_Book_size : PySem.W.recIn K p_Book_size "property" = some (.ref f_Book_size :: rest_Book_size))
    (F_Book_size : Fun K "size" "Book.size" s_Book_size f_Book_size dd_Book_size)
    (u_Book_size : prB K p_Book_size = true)
    (q_Book_names : PySem.W.findIn K (.ref C_Book) "names" = some (some (.ref p_Book_names)))
    (r_Book_names : PySem.W.recIn K p_Book_names "property" = some (.ref f_Book_names :: rest_Book_names))
    (F_Book_names : Fun K "names" "Book.names" s_Book_names f_Book_names dd_Book_names)
    (u_Book_names : prB K p_Book_names = true)
    (q_Book_contains : PySem.W.findIn K (.ref C_Book) "__contains__" = some (some (.ref f_Book_contains)))
    (F_Book_contains : Fun K "__contains__" "Book.__contains__" s_Book_contains f_Book_contains dd_Book_contains)
    (u_Book_contains : fnB K f_Book_contains = true)
    (q_Book_places : PySem.W.findIn K (.ref C_Book) "places" = some (some (.ref f_Book_places)))
    (F_Book_places : Fun K "places" "Book.places" s_Book_places f_Book_places dd_Book_places)
    (u_Book_places : fnB K f_Book_places = true)
    (q_Book_getitem : PySem.W.findIn K (.ref C_Book) "__getitem__" = some (some (.ref f_Book_getitem)))
    (F_Book_getitem : Fun K "__getitem__" "Book.__getitem__" s_Book_getitem f_Book_getitem dd_Book_getitem)
    (u_Book_getitem : fnB K f_Book_getitem = true)
    (q_Book_with_tie : PySem.W.findIn K (.ref C_Book) "with_tie" = some (some (.ref f_Book_with_tie)))
    (F_Book_with_tie : Fun K "with_tie" "Book.with_tie" s_Book_with_tie f_Book_with_tie dd_Book_with_tie)
    (u_Book_with_tie : fnB K f_Book_with_tie = true)
    (c_Book : clsB K C_Book ["_size", "_names", "_ties", "_sets"] = true)
    (m_InvalidBook : PySem.W.nsIn K mainGlobals "InvalidBook" = some (some (.ref C_InvalidBook)))
    (m_InvalidNumber : PySem.W.nsIn K mainGlobals "InvalidNumber" = some (some (.ref C_InvalidNumber)))
    (m_UnknownName : PySem.W.nsIn K mainGlobals "UnknownName" = some (some (.ref C_UnknownName)))
    (m_InvalidOperation : PySem.W.nsIn K mainGlobals "InvalidOperation" = some (some (.ref C_InvalidOperation)))
    (m_InvalidName : PySem.W.nsIn K mainGlobals "InvalidName" = some (some (.ref C_InvalidName)))
    (m_ChooserError : PySem.W.nsIn K mainGlobals "ChooserError" = some (some (.ref C_ChooserError)))
    (i_InvalidNumber_ : PySem.W.findIn K (.ref C_InvalidNumber) "__init__" = some (some (.ref i_InvalidNumber)))
    (I_InvalidNumber : Fun K "__init__" "InvalidNumber.__init__" s_InvalidNumber_init i_InvalidNumber id_InvalidNumber)
    (o_InvalidNumber : ownB K C_InvalidNumber i_InvalidNumber [.type "IndexError", .type "LookupError", .type "Exception", .type "BaseException", .type "object"] "IndexError.__new__" "value" = true)
    (i_UnknownName_ : PySem.W.findIn K (.ref C_UnknownName) "__init__" = some (some (.ref i_UnknownName)))
    (I_UnknownName : Fun K "__init__" "UnknownName.__init__" s_UnknownName_init i_UnknownName id_UnknownName)
    (o_UnknownName : ownB K C_UnknownName i_UnknownName [.type "KeyError", .type "LookupError", .type "Exception", .type "BaseException", .type "object"] "LookupError.__new__" "name" = true)
    (p_InvalidBook : plainB K C_InvalidBook [.type "ValueError", .type "Exception", .type "BaseException", .type "object"] "ValueError.__new__" = true)
    (p_InvalidOperation : plainB K C_InvalidOperation [.type "ValueError", .type "Exception", .type "BaseException", .type "object"] "ValueError.__new__" = true)
    (p_InvalidName : plainB K C_InvalidName [.type "ValueError", .type "Exception", .type "BaseException", .type "object"] "ValueError.__new__" = true)
    (ex_ : exmB K (fun i => [C_ChooserError, C_InvalidName, C_InvalidBook, C_InvalidOperation, C_InvalidNumber, C_UnknownName].getD i 0) errsL (hlsL.map (·.1)) subB = true)
    (kt_ : kitB K (fun c => C_Book) csL = true)
    (n_LETTERS : PySem.W.nsIn K mainGlobals "LETTERS" = some (some v_LETTERS))
    (w_LETTERS : (kVal K v_LETTERS d_LETTERS).isSome = true)
    (n_MAX_LETTERS : PySem.W.nsIn K mainGlobals "MAX_LETTERS" = some (some v_MAX_LETTERS))
    (w_MAX_LETTERS : (kVal K v_MAX_LETTERS d_MAX_LETTERS).isSome = true)
    (n_TOO_LONG : PySem.W.nsIn K mainGlobals "TOO_LONG" = some (some v_TOO_LONG))
    (w_TOO_LONG : (kVal K v_TOO_LONG d_TOO_LONG).isSome = true)
    (n_MAX_PLACES : PySem.W.nsIn K mainGlobals "MAX_PLACES" = some (some v_MAX_PLACES))
    (w_MAX_PLACES : (kVal K v_MAX_PLACES d_MAX_PLACES).isSome = true)
    (n_MAX_TIES : PySem.W.nsIn K mainGlobals "MAX_TIES" = some (some v_MAX_TIES))
    (w_MAX_TIES : (kVal K v_MAX_TIES d_MAX_TIES).isSome = true)
    (n_VALUES_IN : PySem.W.nsIn K mainGlobals "VALUES_IN" = some (some v_VALUES_IN))
    (w_VALUES_IN : (kVal K v_VALUES_IN d_VALUES_IN).isSome = true)
    (n_MAX_VALUES : PySem.W.nsIn K mainGlobals "MAX_VALUES" = some (some v_MAX_VALUES))
    (w_MAX_VALUES : (kVal K v_MAX_VALUES d_MAX_VALUES).isSome = true)
    (z_isinstance : PySem.W.nsIn K mainGlobals "isinstance" = some none)
    (z_int : PySem.W.nsIn K mainGlobals "int" = some none)
    (z_bool : PySem.W.nsIn K mainGlobals "bool" = some none)
    (z_str : PySem.W.nsIn K mainGlobals "str" = some none)
    (z_all : PySem.W.nsIn K mainGlobals "all" = some none)
    (z_len : PySem.W.nsIn K mainGlobals "len" = some none)
    (z_zip : PySem.W.nsIn K mainGlobals "zip" = some none)
    (z_range : PySem.W.nsIn K mainGlobals "range" = some none)
    (z_repr : PySem.W.nsIn K mainGlobals "repr" = some none)
    (z_tuple : PySem.W.nsIn K mainGlobals "tuple" = some none)
    (z_dict : PySem.W.nsIn K mainGlobals "dict" = some none)
    (z_sorted : PySem.W.nsIn K mainGlobals "sorted" = some none)
    (z_property : PySem.W.nsIn K mainGlobals "property" = some none)
    (z_iter : PySem.W.nsIn K mainGlobals "iter" = some none)
    (z_list : PySem.W.nsIn K mainGlobals "list" = some none)
    (z_set : PySem.W.nsIn K mainGlobals "set" = some none)
    (z_min : PySem.W.nsIn K mainGlobals "min" = some none)
    (z_enumerate : PySem.W.nsIn K mainGlobals "enumerate" = some none)
    (z_max : PySem.W.nsIn K mainGlobals "max" = some none)
    (z_abs : PySem.W.nsIn K mainGlobals "abs" = some none)
    (t_right : PySem.W.tabIn K "_law_right" = some (cd_right, Pt_right))
    (tc_right : PySem.W.codeHdIn K cd_right Pt_right = true)
    (tn_right : K.lookup Pt_right = none)
    (tt_right : h.get? Pt_right = some { cls := .none, data := .fields #[] })
    : LawG l w K 24 63 "_law_script" mg fa h := by
  have e := hfa.symm.trans (PySem.W.mg_of X G e_law)
  cases e
  have Z_Book := cls_of c_Book
  refine ⟨(⟨l.prog, w, K, (fun c => C_Book), (fun i => [C_ChooserError, C_InvalidName, C_InvalidBook, C_InvalidOperation, C_InvalidNumber, C_UnknownName].getD i 0), [(Pt_right, ("_law_right.<locals>.<lambda>" : Str))]⟩ : Ev), dd_law, [(cd_right, Pt_right)], m_law, rfl, rfl, rfl, ?_, ?_, ?_, ?_, bl, fun ns _ _ => law_ok ns, ?_⟩
  · intro p hp
    simp only [List.mem_cons, List.not_mem_nil, or_false] at hp
    rcases hp with rfl
    · exact ⟨(cd_right, Pt_right), by simp, rfl⟩
  · intro p hp
    simp only [List.mem_cons, List.not_mem_nil, or_false] at hp
    rcases hp with rfl
    · exact tt_right
  · intro p hp
    simp only [List.mem_cons, List.not_mem_nil, or_false] at hp
    rcases hp with rfl
    · exact tn_right
  · intro p hp
    simp only [List.mem_cons, List.not_mem_nil, or_false] at hp
    rcases hp with rfl
    · exact PySem.W.codeHd_of_K X tc_right
  intro base hKb hNs hTb
  refine all_E (E := (⟨l.prog, w, K, (fun c => C_Book), (fun i => [C_ChooserError, C_InvalidName, C_InvalidBook, C_InvalidOperation, C_InvalidNumber, C_UnknownName].getD i 0), [(Pt_right, ("_law_right.<locals>.<lambda>" : Str))]⟩ : Ev)) X G e_is_name F_is_name e_is_integer F_is_integer e_is_ascending F_is_ascending e_is_number F_is_number e_is_below F_is_below e_is_row F_is_row e_is_rows F_is_rows e_is_tie F_is_tie e_is_ties F_is_ties e_sack F_sack e_check_book F_check_book e_are_alike F_are_alike e_check_alike F_check_alike e_tuples_of F_tuples_of e_does_lead F_does_lead e_value_maps F_value_maps e_folds F_folds e_led_to F_led_to e_is_core F_is_core e_core_values F_core_values e_core_fold F_core_fold e_grab F_grab e_one_of F_one_of e_check_name F_check_name e_is_value_map F_is_value_map e_core F_core e_is_values F_is_values e_to_core F_to_core e_from_core F_from_core e_right F_right e_law F_law e_met F_met m_Book q_Book_init F_Book_init u_Book_init q_Book_size r_Book_size F_Book_size u_Book_size q_Book_names r_Book_names F_Book_names u_Book_names q_Book_contains F_Book_contains u_Book_contains q_Book_places F_Book_places u_Book_places q_Book_getitem F_Book_getitem u_Book_getitem q_Book_with_tie F_Book_with_tie u_Book_with_tie c_Book m_InvalidBook m_InvalidNumber m_UnknownName m_InvalidOperation m_InvalidName m_ChooserError i_InvalidNumber_ I_InvalidNumber o_InvalidNumber i_UnknownName_ I_UnknownName o_UnknownName p_InvalidBook p_InvalidOperation p_InvalidName ex_ kt_ n_LETTERS w_LETTERS n_MAX_LETTERS w_MAX_LETTERS n_TOO_LONG w_TOO_LONG n_MAX_PLACES w_MAX_PLACES n_MAX_TIES w_MAX_TIES n_VALUES_IN w_VALUES_IN n_MAX_VALUES w_MAX_VALUES z_isinstance z_int z_bool z_str z_all z_len z_zip z_range z_repr z_tuple z_dict z_sorted z_property z_iter z_list z_set z_min z_enumerate z_max z_abs t_right rfl (fun c => ?_) hTb
  exact Z_Book.pl
end K51
set_option Elab.async false
set_option linter.all false
set_option maxRecDepth 100000
open PySem PySem.W PyProof.Rows
set_option maxHeartbeats 0 in
theorem PySem.Challenge.cw_setchooser_k51_errors_of_cores_holds : PySem.Challenge.rw_setchooser_k51_errors_of_cores.Holds := by
  w_on; o_law; k_head; (case hw => w_witness2)
  k_fill
  refine TL.walkG (l := PySem.Challenge.rw_setchooser_k51_errors_of_cores) (n := 63) (k := 24) (x := "_law_script") rfl (by decide) rfl ⟨rfl, by decide, by decide⟩ (fun w h Y => PySem.W.km_in_of Y) ?F
  case F =>
    intro w mg fa h KY KX G hmg
    refine' K51.all_mk KX G hmg ?e_is_name (L2.fun_mk ?lF_is_name ?cF_is_name ?kF_is_name) ?e_is_integer (L2.fun_mk ?lF_is_integer ?cF_is_integer ?kF_is_integer) ?e_is_ascending (L2.fun_mk ?lF_is_ascending ?cF_is_ascending ?kF_is_ascending) ?e_is_number (L2.fun_mk ?lF_is_number ?cF_is_number ?kF_is_number) ?e_is_below (L2.fun_mk ?lF_is_below ?cF_is_below ?kF_is_below) ?e_is_row (L2.fun_mk ?lF_is_row ?cF_is_row ?kF_is_row) ?e_is_rows (L2.fun_mk ?lF_is_rows ?cF_is_rows ?kF_is_rows) ?e_is_tie (L2.fun_mk ?lF_is_tie ?cF_is_tie ?kF_is_tie) ?e_is_ties (L2.fun_mk ?lF_is_ties ?cF_is_ties ?kF_is_ties) ?e_sack (L2.fun_mk ?lF_sack ?cF_sack ?kF_sack) ?e_check_book (L2.fun_mk ?lF_check_book ?cF_check_book ?kF_check_book) ?e_are_alike (L2.fun_mk ?lF_are_alike ?cF_are_alike ?kF_are_alike) ?e_check_alike (L2.fun_mk ?lF_check_alike ?cF_check_alike ?kF_check_alike) ?e_tuples_of (L2.fun_mk ?lF_tuples_of ?cF_tuples_of ?kF_tuples_of) ?e_does_lead (L2.fun_mk ?lF_does_lead ?cF_does_lead ?kF_does_lead) ?e_value_maps (L2.fun_mk ?lF_value_maps ?cF_value_maps ?kF_value_maps) ?e_folds (L2.fun_mk ?lF_folds ?cF_folds ?kF_folds) ?e_led_to (L2.fun_mk ?lF_led_to ?cF_led_to ?kF_led_to) ?e_is_core (L2.fun_mk ?lF_is_core ?cF_is_core ?kF_is_core) ?e_core_values (L2.fun_mk ?lF_core_values ?cF_core_values ?kF_core_values) ?e_core_fold (L2.fun_mk ?lF_core_fold ?cF_core_fold ?kF_core_fold) ?e_grab (L2.fun_mk ?lF_grab ?cF_grab ?kF_grab) ?e_one_of (L2.fun_mk ?lF_one_of ?cF_one_of ?kF_one_of) ?e_check_name (L2.fun_mk ?lF_check_name ?cF_check_name ?kF_check_name) ?e_is_value_map (L2.fun_mk ?lF_is_value_map ?cF_is_value_map ?kF_is_value_map) ?e_core (L2.fun_mk ?lF_core ?cF_core ?kF_core) ?e_is_values (L2.fun_mk ?lF_is_values ?cF_is_values ?kF_is_values) ?e_to_core (L2.fun_mk ?lF_to_core ?cF_to_core ?kF_to_core) ?e_from_core (L2.fun_mk ?lF_from_core ?cF_from_core ?kF_from_core) ?e_right (L2.fun_mk ?lF_right ?cF_right ?kF_right) ?e_law (L2.fun_mk ?lF_law ?cF_law ?kF_law) ?e_met (L2.fun_mk ?lF_met ?cF_met ?kF_met) (fun s v => .of_eq rfl) ?m_Book ?q_Book_init (L2.fun_mk ?lF_Book_init ?cF_Book_init ?kF_Book_init) ?u_Book_init ?q_Book_size ?r_Book_size (L2.fun_mk ?lF_Book_size ?cF_Book_size ?kF_Book_size) ?u_Book_size ?q_Book_names ?r_Book_names (L2.fun_mk ?lF_Book_names ?cF_Book_names ?kF_Book_names) ?u_Book_names ?q_Book_contains (L2.fun_mk ?lF_Book_contains ?cF_Book_contains ?kF_Book_contains) ?u_Book_contains ?q_Book_places (L2.fun_mk ?lF_Book_places ?cF_Book_places ?kF_Book_places) ?u_Book_places ?q_Book_getitem (L2.fun_mk ?lF_Book_getitem ?cF_Book_getitem ?kF_Book_getitem) ?u_Book_getitem ?q_Book_with_tie (L2.fun_mk ?lF_Book_with_tie ?cF_Book_with_tie ?kF_Book_with_tie) ?u_Book_with_tie ?c_Book ?m_InvalidBook ?m_InvalidNumber ?m_UnknownName ?m_InvalidOperation ?m_InvalidName ?m_ChooserError ?i_InvalidNumber_ (L2.fun_mk ?lI_InvalidNumber ?cI_InvalidNumber ?kI_InvalidNumber) ?o_InvalidNumber ?i_UnknownName_ (L2.fun_mk ?lI_UnknownName ?cI_UnknownName ?kI_UnknownName) ?o_UnknownName ?p_InvalidBook ?p_InvalidOperation ?p_InvalidName ?ex_ ?kt_ ?n_LETTERS ?w_LETTERS ?n_MAX_LETTERS ?w_MAX_LETTERS ?n_TOO_LONG ?w_TOO_LONG ?n_MAX_PLACES ?w_MAX_PLACES ?n_MAX_TIES ?w_MAX_TIES ?n_VALUES_IN ?w_VALUES_IN ?n_MAX_VALUES ?w_MAX_VALUES ?z_isinstance ?z_int ?z_bool ?z_str ?z_all ?z_len ?z_zip ?z_range ?z_repr ?z_tuple ?z_dict ?z_sorted ?z_property ?z_iter ?z_list ?z_set ?z_min ?z_enumerate ?z_max ?z_abs (TL.tab_some ?t_right) ?tc_right ?tn_right (TL.tabs_in (PySem.W.km_tabs_of KY) ?tt_right)
    (case e_is_name => k_is)
    (case lF_is_name => k_is)
    (case cF_is_name => k_is)
    (case kF_is_name => k_is)
    (case e_is_integer => k_is)
    (case lF_is_integer => k_is)
    (case cF_is_integer => k_is)
    (case kF_is_integer => k_is)
    (case e_is_ascending => k_is)
    (case lF_is_ascending => k_is)
    (case cF_is_ascending => k_is)
    (case kF_is_ascending => k_is)
    (case e_is_number => k_is)
    (case lF_is_number => k_is)
    (case cF_is_number => k_is)
    (case kF_is_number => k_is)
    (case e_is_below => k_is)
    (case lF_is_below => k_is)
    (case cF_is_below => k_is)
    (case kF_is_below => k_is)
    (case e_is_row => k_is)
    (case lF_is_row => k_is)
    (case cF_is_row => k_is)
    (case kF_is_row => k_is)
    (case e_is_rows => k_is)
    (case lF_is_rows => k_is)
    (case cF_is_rows => k_is)
    (case kF_is_rows => k_is)
    (case e_is_tie => k_is)
    (case lF_is_tie => k_is)
    (case cF_is_tie => k_is)
    (case kF_is_tie => k_is)
    (case e_is_ties => k_is)
    (case lF_is_ties => k_is)
    (case cF_is_ties => k_is)
    (case kF_is_ties => k_is)
    (case e_sack => k_is)
    (case lF_sack => k_is)
    (case cF_sack => k_is)
    (case kF_sack => k_is)
    (case e_check_book => k_is)
    (case lF_check_book => k_is)
    (case cF_check_book => k_is)
    (case kF_check_book => k_is)
    (case e_are_alike => k_is)
    (case lF_are_alike => k_is)
    (case cF_are_alike => k_is)
    (case kF_are_alike => k_is)
    (case e_check_alike => k_is)
    (case lF_check_alike => k_is)
    (case cF_check_alike => k_is)
    (case kF_check_alike => k_is)
    (case e_tuples_of => k_is)
    (case lF_tuples_of => k_is)
    (case cF_tuples_of => k_is)
    (case kF_tuples_of => k_is)
    (case e_does_lead => k_is)
    (case lF_does_lead => k_is)
    (case cF_does_lead => k_is)
    (case kF_does_lead => k_is)
    (case e_value_maps => k_is)
    (case lF_value_maps => k_is)
    (case cF_value_maps => k_is)
    (case kF_value_maps => k_is)
    (case e_folds => k_is)
    (case lF_folds => k_is)
    (case cF_folds => k_is)
    (case kF_folds => k_is)
    (case e_led_to => k_is)
    (case lF_led_to => k_is)
    (case cF_led_to => k_is)
    (case kF_led_to => k_is)
    (case e_is_core => k_is)
    (case lF_is_core => k_is)
    (case cF_is_core => k_is)
    (case kF_is_core => k_is)
    (case e_core_values => k_is)
    (case lF_core_values => k_is)
    (case cF_core_values => k_is)
    (case kF_core_values => k_is)
    (case e_core_fold => k_is)
    (case lF_core_fold => k_is)
    (case cF_core_fold => k_is)
    (case kF_core_fold => k_is)
    (case e_grab => k_is)
    (case lF_grab => k_is)
    (case cF_grab => k_is)
    (case kF_grab => k_is)
    (case e_one_of => k_is)
    (case lF_one_of => k_is)
    (case cF_one_of => k_is)
    (case kF_one_of => k_is)
    (case e_check_name => k_is)
    (case lF_check_name => k_is)
    (case cF_check_name => k_is)
    (case kF_check_name => k_is)
    (case e_is_value_map => k_is)
    (case lF_is_value_map => k_is)
    (case cF_is_value_map => k_is)
    (case kF_is_value_map => k_is)
    (case e_core => k_is)
    (case lF_core => k_is)
    (case cF_core => k_is)
    (case kF_core => k_is)
    (case e_is_values => k_is)
    (case lF_is_values => k_is)
    (case cF_is_values => k_is)
    (case kF_is_values => k_is)
    (case e_to_core => k_is)
    (case lF_to_core => k_is)
    (case cF_to_core => k_is)
    (case kF_to_core => k_is)
    (case e_from_core => k_is)
    (case lF_from_core => k_is)
    (case cF_from_core => k_is)
    (case kF_from_core => k_is)
    (case e_right => k_is)
    (case lF_right => k_is)
    (case cF_right => k_is)
    (case kF_right => k_is)
    (case e_law => k_is)
    (case lF_law => k_is)
    (case cF_law => k_is)
    (case kF_law => k_is)
    (case e_met => k_is)
    (case lF_met => k_is)
    (case cF_met => k_is)
    (case kF_met => k_is)
    (case m_Book => k_is)
    (case q_Book_init => k_is)
    (case lF_Book_init => k_is)
    (case cF_Book_init => k_is)
    (case kF_Book_init => k_is)
    (case u_Book_init => kernel_rfl)
    (case q_Book_size => k_is)
    (case r_Book_size => k_is)
    (case lF_Book_size => k_is)
    (case cF_Book_size => k_is)
    (case kF_Book_size => k_is)
    (case u_Book_size => kernel_rfl)
    (case q_Book_names => k_is)
    (case r_Book_names => k_is)
    (case lF_Book_names => k_is)
    (case cF_Book_names => k_is)
    (case kF_Book_names => k_is)
    (case u_Book_names => kernel_rfl)
    (case q_Book_contains => k_is)
    (case lF_Book_contains => k_is)
    (case cF_Book_contains => k_is)
    (case kF_Book_contains => k_is)
    (case u_Book_contains => kernel_rfl)
    (case q_Book_places => k_is)
    (case lF_Book_places => k_is)
    (case cF_Book_places => k_is)
    (case kF_Book_places => k_is)
    (case u_Book_places => kernel_rfl)
    (case q_Book_getitem => k_is)
    (case lF_Book_getitem => k_is)
    (case cF_Book_getitem => k_is)
    (case kF_Book_getitem => k_is)
    (case u_Book_getitem => kernel_rfl)
    (case q_Book_with_tie => k_is)
    (case lF_Book_with_tie => k_is)
    (case cF_Book_with_tie => k_is)
    (case kF_Book_with_tie => k_is)
    (case u_Book_with_tie => kernel_rfl)
    (case c_Book => kernel_rfl)
    (case m_InvalidBook => k_is)
    (case m_InvalidNumber => k_is)
    (case m_UnknownName => k_is)
    (case m_InvalidOperation => k_is)
    (case m_InvalidName => k_is)
    (case m_ChooserError => k_is)
    (case i_InvalidNumber_ => k_is)
    (case lI_InvalidNumber => k_is)
    (case cI_InvalidNumber => k_is)
    (case kI_InvalidNumber => k_is)
    (case o_InvalidNumber => kernel_rfl)
    (case i_UnknownName_ => k_is)
    (case lI_UnknownName => k_is)
    (case cI_UnknownName => k_is)
    (case kI_UnknownName => k_is)
    (case o_UnknownName => kernel_rfl)
    (case p_InvalidBook => kernel_rfl)
    (case p_InvalidOperation => kernel_rfl)
    (case p_InvalidName => kernel_rfl)
    (case ex_ => kernel_rfl)
    (case kt_ => kernel_rfl)
    (case n_LETTERS => k_is)
    (case w_LETTERS => kernel_rfl)
    (case n_MAX_LETTERS => k_is)
    (case w_MAX_LETTERS => kernel_rfl)
    (case n_TOO_LONG => k_is)
    (case w_TOO_LONG => kernel_rfl)
    (case n_MAX_PLACES => k_is)
    (case w_MAX_PLACES => kernel_rfl)
    (case n_MAX_TIES => k_is)
    (case w_MAX_TIES => kernel_rfl)
    (case n_VALUES_IN => k_is)
    (case w_VALUES_IN => kernel_rfl)
    (case n_MAX_VALUES => k_is)
    (case w_MAX_VALUES => kernel_rfl)
    (case z_isinstance => k_is)
    (case z_int => k_is)
    (case z_bool => k_is)
    (case z_str => k_is)
    (case z_all => k_is)
    (case z_len => k_is)
    (case z_zip => k_is)
    (case z_range => k_is)
    (case z_repr => k_is)
    (case z_tuple => k_is)
    (case z_dict => k_is)
    (case z_sorted => k_is)
    (case z_property => k_is)
    (case z_iter => k_is)
    (case z_list => k_is)
    (case z_set => k_is)
    (case z_min => k_is)
    (case z_enumerate => k_is)
    (case z_max => k_is)
    (case z_abs => k_is)
    (case t_right => kernel_rfl)
    (case tc_right => kernel_rfl)
    (case tn_right => kernel_rfl)
    (case tt_right => kernel_rfl)
