import PyProof.Rows.All
import Wide.All
import OpenK.AllK
import Wide.FinOn
import HandS.Base
import HandS.Call
import HandS.Ends
import HandS.Words
import HandS.List
import PyProof.EqAt
import PyProof.EqKinds
import PyProof.TupleCall
import KE.KRevSl
import HandS.SetFor
import HandS.Strs
import HandS.Wide
import HandS.ForMost
import HandS.IsInst
import HandS.Zip
import HandS.TupAny
import HandS.SortRule
import HandS.SortInts
import PyProof.ListStr
import HandS.Conv
import HandS.More
import HandS.Text
import PyProof.StrBlock2
import HandS.ListItems
import HandS.Style
import HandS.OwnEq
import HandS.IterVal
import KE.KFmtOwn
import KE.KCallOwn
import KE.KOwnIter
import HandS.DictComp
import KE.KEqNest
import KE.Datum
import HandS.NamedTupSort
import HandS.Property
import HandS.FStr
import PyProof.ReprRoads
import KE.LtSeq
import KE.KeyNested
import HandS.Dict
import PySem.Challenge.RW_setchooser_k07_nets_told
set_option Elab.async false
set_option linter.all false
set_option maxRecDepth 100000
set_option maxHeartbeats 4000000
/-! Gd: defs that are called where no repr is under way (what stands around has no guards), for laws that compare by repr. -/
namespace Gd
open PySem PySem.Spec PyProof.Rows L2
section
variable {P : Program} {w : World} {K : PySem.W.Frag} {mg : Str → Option Value} {base : Heap} {CX : CXT}

/-- as FnOk, wherever no guard stands around -/
structure FnG (P : Program) (w : World) (K : PySem.W.Frag) (mg : Str → Option Value) (base : Heap) (CX : CXT) (k : Nat) (f : Addr) (fd : FuncData) (ps : List Str) (sp : Sp) : Prop where
  lenG : ∀ us H Q E, sp us H Q E → us.length = ps.length
  runG : ∀ (B : Around) (fs : List Env) (t : Shared) (H : Hp) (as : Args) (ws : List Value) (us : List V) (Q : VK) (E : XK), Room k B → B.guards = some [] → Env0 P w K mg base B fs t H →
    BindsTo t fd as (ps.zip ws) → Vals us ws → sp us H Q E → codeAny (model P w) B (.call (.ref f) as) (CR CX fs P w H t Q E) t

theorem FnG.of {k : Nat} {f : Addr} {fd : FuncData} {ps : List Str} {sp : Sp} (F : FnOk P w K mg base CX k f fd ps sp) : FnG P w K mg base CX k f fd ps sp :=
  ⟨F.len, fun B fs t H as ws us Q E r _ e b v q => F.run B fs t H as ws us Q E r e b v q⟩

/-- a def of the text, by its body, where no guard stands around -/
theorem def_ok {x qual : Str} {st : Stmt} {f : Addr} {fd : FuncData} {N ps : List Str} {k : Nat} {sp : Sp} (F : Fun K x qual st f fd) (S : FnScope N ps (defScope st)) (hl : ∀ us H Q E, sp us H Q E → us.length = ps.length)
    (hb : ∀ (cd : Value) (B : Around) (fs : List Env) (t : Shared) (H : Hp) (us : List V) (Q : VK) (E : XK), Room k (B.deeper (envOfC qual (defScope st) t.heap.objs.size f cd)) → B.guards = some [] → sp us H Q E →
      ∃ r, PSs (cxOf CX P w K mg base N qual (defScope st) f cd B fs t H E).nox (defBody st) r ∧ r { nx := fun _ G => Q .non G, rt := Q } (start N us) H) : FnG P w K mg base CX (k + 1) f fd ps sp := by
  obtain ⟨oc, od, kV, doc, pm, an, cd, ct, osl, rfl, lk, hc⟩ := F.ex
  constructor
  · exact hl
  intro B fs t H as ws us Q E hr hg e0 hbd hv hq
  have e0b := e0.bs
  have inK : K.In t.heap := e0.mod.kin.keeps fun b o z => (e0b b o z).1
  have few := hl _ _ _ _ hq
  refine codeAny_call_function hr.depth (inK _ _ lk) rfl S.co S.gen rfl (PySem.W.codeRec_of inK hc) (hbd _ _ _ _ ?_)
  apply wpAny_newFunctionEnv_cells S.kind
  · rintro ⟨n, u⟩ hy
    cases S.par n (List.of_mem_zip hy).1 with
    | inl z => exact Or.inl z
    | inr z => exact Or.inr ⟨z, PySem.W.cellsFrom_some _ _ _ (Or.inl z)⟩
  intro env he t1 hx
  subst he
  constructor
  · exact Heap.NoLimit.keeps (e0.mod.nolimit.keeps fun b o z => (e0b b o z).1) hx.toInCall.keep
  apply codeAny_func
  obtain ⟨r, hpss, hrd⟩ := hb cd B fs t H us Q E (hr.deeper _) hg hq
  have J := inv_start (CX := CX) (E := E) S hr.hd e0 few hv hx
  apply wpAny_mono (hpss.nox.run [] t1 (start N us) H _ J hrd)
  · intro fl t2 h2
    cases fl with
    | next =>
      obtain ⟨σ2, G, J2, z⟩ := h2
      exact ⟨V.non, G, J2.os, J2.bare, J2.base, J2.hok, (rfl : Value.none = Value.none), z⟩
    | ret u =>
      obtain ⟨v, σ2, G, J2, rv, z⟩ := h2
      exact ⟨v, G, J2.os, J2.bare, J2.base, J2.hok, rv, z⟩
    | brk => exact (h2.elim fun _ h3 => h3.elim fun _ h4 => h4.2).elim
    | cont => exact (h2.elim fun _ h3 => h3.elim fun _ h4 => h4.2).elim
  · intro _ _ z
    exact z
end
section
variable {X : Cx} {CX : CXT} {k : Nat} {f : Addr} {fd : FuncData} {ps : List Str} {sp : Sp} {E : XK} {x : Str} {p pos : Pos} {e : Expr} {es : List Expr} {t : TA}
/-- a call of such a def -/
theorem call_ok (F : FnG X.prog X.w X.K X.mg X.base CX k f fd ps sp) (hr : Room k X.A) (hgd : X.A.guards = some []) (hg : Gl X x) (hm : X.mg x = some (.ref f)) (hk : PySem.W.keepIn X.K (.ref f) = true) (hb : Binds X.K fd ps []) (hx : Passes CX X E)
    (ha : PA X (e :: es) t) (hdb : (x == ("__debug__" : Str)) = false := by decide) (h1 : starEach (e :: es) X.env = (false, eval e X.env) :: starEach es X.env := by rfl) (h2 : (backTo pos (starEach es X.env)).any (·.1) = false := by rfl) :
    PE X (.Call (.Name x p) (e :: es) [] pos) (tCall sp [] E t) := by
  constructor
  intro pins s σ H Q I h
  refine wpAny_Call_Name_kw (ld_glob I hg hm (PySem.W.callWith_K (h₀ := X.base) I.ok.mod.kin hk ?_ h1 h2) hdb)
  refine thn (ha.run pos pins s σ H _ I h) ?_
  rintro us s1 ⟨vs, H1, J, r, q⟩
  refine ⟨J.kIn, wpAny_call ?_⟩
  have q : sp (vs ++ []) H1 Q E := q
  rw [List.append_nil] at q
  have z : (us ++ []).length = ps.length := by rw [List.append_nil, ← r.length]; exact F.lenG _ _ _ _ q
  have bd := hb s1 us J.kIn z
  rw [List.append_nil] at bd
  apply codeAny_mono (F.runG X.A X.stack s1 H1 ⟨us, []⟩ us vs Q E hr hgd J.env0 bd r q)
  intro res s2 h3
  rcases res with u | fl
  · exact hx pins σ H1 s1 _ s2 J h3
  · cases fl with
    | ret u => exact J.after h3
    | _ => exact (show False from h3).elim
end
/-- repr of data without dicts, where no guard stands around -/
def rRepr (K : PySem.W.Frag) : List V → Hp → VK → Prop := fun vs H Q => ∃ (a : Addr) (d : PyData), vs = [.ref a] ∧ Dp K H (.ref a) d ∧ d.showable = true ∧ d.hasDict = false ∧ d.depth < 60 ∧ d.shown.length ≤ sizeLine ∧ Q (.str d.shown) H
theorem call_repr {X : Cx} (hgd : X.A.guards = some []) (hu : X.A.units + 64 < cLine) : CallR X (.builtin "repr") (rRepr X.K) := by
  intro pins s σ H vs us Q I r h
  obtain ⟨a, d, rfl, hd, h1, h2, h3, h4, q⟩ := h
  obtain ⟨u, rfl, ru⟩ := vals1 r
  cases (show u = Value.ref a from ru)
  obtain ⟨as, hR⟩ := Dp.reads I d (.ref a) (.ref a) hd rfl
  refine repr_of_reads' hR h1 (PyData.noDict_hsm h2) hgd (by omega) (fun _ _ z => z) (fun h' u tk hk => ?_) h4
  exact ⟨.str d.shown, H, I.kept (t' := tk) hk, ⟨u, rfl⟩, q⟩
end Gd

namespace Gd
open PySem PySem.Spec PyProof.Rows L2
/-- the law's own call, behind the top -/
theorem law_run {P : Program} {w : World} {K : PySem.W.Frag} {mg mb : Str → Option Value} {k : Nat} {fa a : Addr} {fd : FuncData} {x : Str} {sp : Sp} {t : Shared} {vs : List Value} {ns : List Int}
    (inK : K.In t.heap) (hmg : t.heap.Ns mainGlobals mg) (hmb : t.heap.Ns builtinsNs mb) (hbb : ∀ y : Str, y ≠ "__name__" → mb y = bootBuiltins y) (hnl : t.heap.NoLimit) (hgen : t.gens = #[])
    (hobj : t.heap.get? a = some { cls := .type "list", data := .seq vs.toArray }) (hints : IntsAre vs ns) (hlen : ns.length ≤ sizeLine) (room : Room k callerA)
    (F : ∀ base : Heap, K.In base → base.Ns mainGlobals mg → FnG P w K mg base CX0 k fa fd [x] sp) (hbind : ∀ (s : Shared) (u : Value), BindsTo s fd ⟨[u], []⟩ [(x, u)])
    (hsp : ∀ H : Hp, SqL K H a (ns.map V.int) → sp [.ref a] H (fun v _ => v = .bl true) fun _ _ _ => False) :
    codeAny (model P w) callerA (.call (.ref fa) ⟨[.ref a], []⟩) (fun r t' => r = .ok (.ret (.bool true)) ∧ OldK t.heap t'.heap ∧ t'.os = t.os ∧ AllBare t'.gens) t := by
  have hv := vals_ints hints
  let ob : Obj := { cls := .type "list", data := .seq vs.toArray }
  -- whatever is tracked is the script, as it lies
  suffices main : ∀ H : Hp, (∀ b u, H b = some u → b = a ∧ u = .frz ob (.lst (ns.map V.int)) ∧ K.lookup a = none) → SqL K H a (ns.map V.int) →
      codeAny (model P w) callerA (.call (.ref fa) ⟨[.ref a], []⟩) (fun r t' => r = .ok (.ret (.bool true)) ∧ OldK t.heap t'.heap ∧ t'.os = t.os ∧ AllBare t'.gens) t by
    cases hk : K.lookup a with
    | none =>
      apply main fun b => if b = a then some (.frz ob (.lst (ns.map V.int))) else none
      · intro b u z
        by_cases hb : b = a
        · rw [if_pos hb] at z
          exact ⟨hb, (Option.some.inj z).symm, hk⟩
        · rw [if_neg hb] at z
          cases z
      · exact Or.inl (Or.inr ⟨ob, if_pos rfl⟩)
    | some o =>
      have z := inK a o hk
      rw [hobj] at z
      cases z
      apply main fun _ => none
      · intro b u z
        cases z
      · exact Or.inr ⟨_, vs.toArray, _, hk, rfl, rfl, rfl, by rw [List.size_toArray, hints.length]; exact hlen, by simpa using hv⟩
  intro H hH hS
  have hok : HOk P w H t.heap := fun b u z => by
    obtain ⟨rfl, rfl, _⟩ := hH b u z
    exact ⟨hobj, by rw [List.length_map]; exact hlen, vs, _, hv, hobj⟩
  have free : ∀ {b o}, t.heap.get? b = some o → o ≠ ob → H b = none := fun {b o} z ne => by
    cases q : H b with
    | none => rfl
    | some u =>
      obtain ⟨rfl, _, _⟩ := hH b u q
      rw [hobj] at z
      exact absurd (Option.some.inj z).symm ne
  have nsH : ∀ {b m}, t.heap.Ns b m → (hidT t.heap H).Ns b m := fun {b m} ⟨o, es, ep, z, d, r⟩ => by
    refine ⟨o, es, ep, hidT_get z (free z fun q => ?_), d, r⟩
    rw [q] at d
    exact nomatch (show Data.seq vs.toArray _ = Data.dict es ep from d)
  have inKH : K.In (hidT t.heap H) := fun b o z => hidT_get (inK b o z) (by
    cases q : H b with
    | none => rfl
    | some u =>
      obtain ⟨rfl, _, n⟩ := hH b u q
      rw [n] at z
      cases z)
  obtain ⟨mc, l1, l2⟩ := hnl
  have e0 : Env0 P w K mg (hidT t.heap H) callerA [] t H := by
    refine ⟨rfl, ⟨inKH, nsH hmg, ⟨mb, nsH hmb, hbb⟩, mc, nsH l1, l2⟩, fun b o z => of_hidT z, Nat.le_of_eq (hidT_size _ _), trivial, fun b hb => ?_, hok, .of_eq hgen⟩
    cases hb
  apply codeAny_mono ((F _ inKH (nsH hmg)).runG callerA [] t H ⟨[.ref a], []⟩ [.ref a] [.ref a] _ _ room rfl e0 (hbind t (.ref a)) (.cons rfl .nil) (hsp H hS))
  intro r t' hr
  rcases r with e | fl
  · exact (show False from hr).elim
  cases fl with
  | ret u =>
    obtain ⟨v, H', os, bare, un, hok', ru, q⟩ := hr
    have q : v = .bl true := q
    subst q
    cases (show u = Value.bool true from ru)
    refine ⟨rfl, OldK.of_keep fun b o z => ?_, os, bare⟩
    cases q : H b with
    | none => exact un.keep b o z q (fun m => nomatch (show b ∈ ([] : List Addr) from m)) (by simp)
    | some u =>
      obtain ⟨rfl, rfl, _⟩ := hH b u q
      have z2 := (hok' b _ (un.frzs b _ _ q)).1
      rw [hobj] at z
      cases z
      exact z2
  | _ => exact (show False from hr).elim

/-- the goal that k_head leaves (case hc) -/
theorem walk {l : PySem.W.OpenLaw} {n k : Nat} {q : Program} {loose : List Str} {XP : (Str → Option Value) → Heap → Prop} {YP : World → Heap → Prop} {d : DefRec} {K : Params → PySem.W.Frag} {sp : World → Sp} {x : Str}
    (hn : l.most = some n) (hn2 : n ≤ sizeLine) (hdf : d.params.defaults = []) (room : Room k callerA) (hY : ∀ (w : World) (h : Heap), YP w h → (K w.params).In h)
    (F : ∀ (w : World) (mg : Str → Option Value) (fa : Addr) (h : Heap), (K w.params).In h → h.Ns mainGlobals mg → mg d.name = some (.ref fa) →
      ∃ fd : FuncData, (∀ (s : Shared) (u : Value), BindsTo s fd ⟨[u], []⟩ [(x, u)]) ∧ ∀ base : Heap, (K w.params).In base → base.Ns mainGlobals mg → FnG l.prog w (K w.params) mg base CX0 k fa fd [x] (sp w))
    (hsp : ∀ (w : World) (H : Hp) (a : Addr) (ns : List Int), ns.length ≤ n → SqL (K w.params) H a (ns.map V.int) → sp w [.ref a] H (fun v _ => v = .bl true) fun _ _ _ => False) :
    PySem.W.WalkO q loose XP YP l.row.toRowW d [] (fun f vs => PySem.call f vs) := by
  apply Att.attach_call hn hdf
  intro w s₀ s₁ mg mb fa o pm cd doc a vs ns G Y _ _ _ hfa hobj hints hlen hg
  have inK := hY w _ Y
  obtain ⟨fd, hb, hF⟩ := F w mg fa _ inK G.T.g hfa
  exact law_run inK G.T.g G.T.b G.T.builtins G.T.nolimit hg hobj hints (Nat.le_trans hlen hn2) room hF hb fun H hS => hsp w H a ns hlen hS
end Gd

set_option Elab.async false
set_option linter.all false
set_option maxRecDepth 100000
set_option maxHeartbeats 4000000
/-! Rl: three rules that the layer lacks: ** of great ints, t[::-1] of a tuple, set(..) of a list or tuple of ints. -/
namespace Gd
open PySem PySem.Spec PyProof.Rows L2
/-! ### powers -/
def CPowG (i j : Int) : Prop := 0 ≤ j ∧ (Builtin.Int.intBits i : Int) * j ≤ 2 ^ 27
theorem op_powG {X : Cx} : OpR X (binaryOp .Pow) (rI CPowG fun i j => .int (i ^ j.toNat)) := opI fun _ _ _ _ _ _ _ c q => pow_int c.1 c.2 q
/-! ### t[::-1] -/
theorem fm_same {α β : Type} {f g : α → Option β} : ∀ l : List α, (∀ x ∈ l, f x = g x) → l.filterMap f = l.filterMap g
  | [], _ => rfl
  | x :: l, h => by
    have h1 := h x List.mem_cons_self
    have h2 := fm_same l fun y hy => h y (List.mem_cons_of_mem _ hy)
    rw [List.filterMap_cons, List.filterMap_cons, h1, h2]
theorem back_all (its : Array Value) : (List.range its.size).filterMap (fun (k : Nat) => its[(((its.size : Int) - 1) + (k : Int) * (-1)).toNat]?) = its.toList.reverse := by
  have h1 : (List.range its.size).map (fun k => its.size - 1 - k) = (List.range its.size).reverse := PySem.W.krv_range its.size
  have h2 : its.toList.reverse = ((List.range its.size).map fun k => its.size - 1 - k).filterMap (its[·]?) := by
    rw [h1, List.filterMap_reverse, PySem.W.krv_all]
  rw [h2, List.filterMap_map]
  apply fm_same
  intro k hk
  have hk : k < its.size := List.mem_range.mp hk
  show its[_]? = its[_]?
  congr 1
  show ((its.size : Int) - 1 + (k : Int) * (-1)).toNat = its.size - 1 - k
  omega
section
variable {prog : Program} {w : World} {A : Around} {E : Value → Shared → Prop} {s : Shared}
theorem back_applied {sl : Addr} {vs : Value} {n : Nat} {Q : Int × Int × Nat → Shared → Prop} (hs : s.heap.IsSliceOf sl .none .none vs) (ps : IsPart vs (some (-1)))
    (h : Q ((n : Int) - 1, -1, n) s) : wpAny (model prog w) A (Builtin.Slice.sliceApplied (.ref sl) (pure (n : Int))) Q E s := by
  have ⟨ob, ho, _, hd⟩ := hs
  unfold Builtin.Slice.sliceApplied Builtin.Slice.sliceFields
  apply wpAny_bind
  refine wpAny_bind (wpAny_field ho hd (x := Value.none) rfl ?_)
  refine wpAny_bind (wpAny_field ho hd (x := Value.none) rfl ?_)
  refine wpAny_bind (wpAny_field ho hd (x := vs) rfl (wpAny_pure ?_))
  refine wpAny_bind (HT.slicePart_ ps ?_)
  show wpAny _ _ (if ((-1 : Int) == 0) = true then _ else _) _ _ s
  rw [if_neg (by decide)]
  refine wpAny_bind (slicePart_none (wpAny_bind (slicePart_none (wpAny_bind (wpAny_pure ?_)))))
  have e1 : Builtin.Slice.sliceAdjust none none (-1) (n : Int) = ((n : Int) - 1, -1) := by
    unfold Builtin.Slice.sliceAdjust
    simp
  have e2 : Builtin.Slice.slicePlaces ((n : Int) - 1) (-1) (-1) = n := by
    unfold Builtin.Slice.slicePlaces
    simp
    try omega
  show wpAny _ _ (match Builtin.Slice.sliceAdjust none none (-1) (n : Int) with | (lo, hi) => pure (lo, (-1 : Int), Builtin.Slice.slicePlaces lo hi (-1))) _ _ s
  rw [e1]
  show wpAny _ _ (pure ((n : Int) - 1, (-1 : Int), Builtin.Slice.slicePlaces ((n : Int) - 1) (-1) (-1))) _ _ s
  rw [e2]
  exact wpAny_pure h
theorem back_item {t sl : Addr} {its : Array Value} {vs : Value} {Q : Value → Shared → Prop} (ht : IsTup s.heap t its) (hs : s.heap.IsSliceOf sl .none .none vs) (ps : IsPart vs (some (-1))) (hz : its.size ≤ sizeLine)
    (h : Q (.ref s.heap.objs.size) { s with heap := s.heap.push { cls := .type "tuple", data := .seq its.toList.reverse.toArray } }) : wpAny (model prog w) A (getItem (.ref t) (.ref sl)) Q E s := by
  have ⟨ob, ho, hc, _⟩ := hs
  have few : sizeOk (.seq its.toList.reverse.toArray) := by
    show its.toList.reverse.toArray.size ≤ sizeLine
    simpa using hz
  unfold getItem
  try with_reducible refine wpAny_holding ?_
  first | refine wpAny_bind (wpAny_pure ?_) | skip
  refine wpAny_bind (wpAny_sequenceKey ht.typeIs (by decide) (wpAny_bind (wpAny_callSpecial?_slot (name := Str.ofString "__getitem__") ht.typeIs PyProof.Rows.slot_tuple_getitem
    (wpAny_call_entry PyProof.Rows.slot_tuple_getitem ht.typeIs entry_tuple_getitem ?_ (args_tuple_getitem _ _)))))
  show wpAny _ _ (Builtin.Tuple.tupleItemsOf (.ref t) >>= _) _ _ s
  refine wpAny_bind (tupleItemsOf_ ht (wpAny_bind (wpAny_typeOf (show s.TypeIs (.ref sl) "slice" from ⟨ob, ho, hc⟩) ?_)))
  rw [if_pos (by decide)]
  refine wpAny_bind (back_applied hs ps ?_)
  show wpAny _ _ (if ((its.size : Int) - 1 == 0 && (-1 : Int) == 1 && its.size == its.size) = true then _ else _) _ _ s
  rw [if_neg (by simp), back_all]
  first
    | exact wpAny_bind (m := Builtin.Tuple.tupleExact _) (wpAny_newObj_type (wpAny_pure ⟨_, rfl, wpAny_pure h⟩) few)
    | exact wpAny_bind (wpAny_bind (m := Builtin.Tuple.tupleExact _) (wpAny_newObj_type (wpAny_pure (wpAny_pure ⟨_, rfl, wpAny_pure h⟩)) few))
    | exact wpAny_bind (wpAny_bind (m := Builtin.Tuple.tupleExact _) (wpAny_newObj_type (wpAny_pure ⟨_, rfl, wpAny_pure h⟩) few))
    | exact wpAny_bind (m := Builtin.Tuple.tupleExact _) (wpAny_newObj_type (wpAny_bind (wpAny_pure (wpAny_pure ⟨_, rfl, wpAny_pure h⟩))) few)
end
def tBack (K : PySem.W.Frag) (te : TE) : TE := fun σ H Q => te σ H fun x G => ∃ a xs, x = .ref a ∧ SqT K G a xs ∧ ∀ p, G p = none → Q (.ref p) (upd G p (.tup xs.reverse))
theorem pe_back {X : Cx} {e : Expr} {te : TE} {k : Nat} {p1 p2 p3 pos : Pos} (he : PE X e te) : PE X (.Subscript e (.Slice none none (some (.UnaryOp .USub (.Constant (.int 1) k p1) p2)) p3) pos) (tBack X.K te) := by
  constructor
  intro pins s σ H Q I h
  refine Subscript_ (thn (he.run pins s σ H _ I h) ?_)
  rintro v s1 ⟨x, G, J, rx, a, xs, rfl, hx, q⟩
  cases (show v = Value.ref a from rx)
  have st : PO X (some (.UnaryOp .USub (.Constant (.int 1) k p1) p2)) (tPart (tUn (rU fun i => .int (-i)) (tC (.int 1)))) := po_some (pe_un un_neg pe_int)
  have no := po_none (X := X)
  apply wpAny_Slice
  refine thn (no.run pins s1 σ G (fun o F => o = none ∧ F = G) J ⟨rfl, rfl⟩) ?_
  rintro vl s2 ⟨_, _, J2, pl, rfl, rfl⟩
  refine thn (no.run pins s2 σ _ (fun o F => o = none ∧ F = _) J2 ⟨rfl, rfl⟩) ?_
  rintro vu s3 ⟨_, _, J3, pu, rfl, rfl⟩
  refine thn (st.run pins s3 σ _ (fun o F => o = some (-1) ∧ F = _) J3 ⟨1, rfl, -1, rfl, rfl, rfl⟩) ?_
  rintro vs s4 ⟨_, _, J4, ps, rfl, rfl⟩
  cases pl
  cases pu
  have J5 : Inv X pins σ _ { s4 with heap := s4.heap.push { cls := .type "slice", data := .fields #[Value.none, Value.none, vs] } } := J4.kept (t' := s4.toks) fun b ob z => Heap.get?_push_of_some _ z
  obtain ⟨its, r, ht, hz⟩ := J5.tuple hx
  have few : its.toArray.size ≤ sizeLine := by
    rw [List.size_toArray, ← r.length]
    exact hz
  refine tail_any (ops := [.ref a, .ref s4.heap.objs.size]) ht.typeIs PyProof.Rows.slot_tuple_getitem.lookup (back_item ht (Heap.IsSliceOf.new _ _ _ vs) ps few ?_) (by with_unfolding_all rfl)
  refine ⟨.ref _, _, J5.laid (t' := s4.toks) (o := .tup xs.reverse) (fun b ob z => Heap.get?_push_of_some _ z) (Nat.le_refl _) ?_, rfl, q _ (J5.hok.fresh (Nat.le_refl _))⟩
  refine ⟨by rw [List.length_reverse]; exact hz, _, r.reverse, ?_⟩
  exact IsTup.new _ _
end Gd

set_option Elab.async false
set_option linter.all false
set_option maxRecDepth 100000
set_option maxHeartbeats 4000000
namespace Gd
open PySem PySem.Spec PyProof.Rows L2
section
variable {P : Program} {w : World} {A : Around} {E : Value → Shared → Prop} {s : Shared}
abbrev freshSet (w : World) : Obj := { cls := .type "set", dict := none, data := .set #[] 0 (.fresh 0 0 (!w.params.followText "set-order")) }
/-- the set of a list of ints: what stands behind set(l) -/
def SetMade (w : World) (s : Shared) (ns : List Int) (r : Value) (s2 : Shared) : Prop :=
  r = .none ∧ ∃ h' tk c, s2 = { s with heap := h', toks := tk } ∧ SetR w h' s.heap.objs.size (fun j => decide (j ∈ ns)) c ∧ c ≤ ns.length ∧ ∀ b o, s.heap.get? b = some o → h'.get? b = some o
theorem set_of_list {l : Addr} {its : Array Value} (ns : List Int) {Q : Value → Shared → Prop} (calm : A.handled = none) (hl : s.heap.IsList l its) (hi : IntsAre its.toList ns) (few : ns.length + 1 < scanBound)
    (h : ∀ (h' : Heap) (tk c : Nat), SetR w h' s.heap.objs.size (fun j => decide (j ∈ ns)) c → c ≤ ns.length → (∀ b o, s.heap.get? b = some o → h'.get? b = some o) → Q (.ref s.heap.objs.size) { s with heap := h', toks := tk }) :
    wpAny (model P w) A (call (.type "set") [.ref l]) Q E s := by
  have many : its.size = ns.length := by
    rw [← hi.length, Array.length_toList]
  have ⟨c, tl, hmro⟩ := F.called_set.mro
  have f1 := F.called_set.made
  have f2 := F.called_set.sub
  apply wpAny_call
  apply codeAny_of_tree
  show wpAny _ _ (callAny (.type "set") _) _ _ _
  refine wpAny_pure ⟨Code.quiet_builtin _ (by decide +kernel), codeAny_builtin F.entry_type_call ?_⟩
  rw [Around.under_plain (weight_type_call_type "set" [.ref l] []) rfl]
  have f3 := F.called_set.notType
  have f4 := F.called_set.canCreate
  have f5 := F.typeCall_set_1 (.ref l)
  repeat (any_goals (first | assumption | wp_step))
  refine codeAny_mono (code_set_led1 (.ref l) (E := E) (Q₁ := fun r t => r = .ref s.heap.objs.size ∧ t = { s with heap := s.heap.push (freshSet w) }) ⟨rfl, rfl⟩) ?_
  intro r s1 hr
  rcases r with e | fl
  · exact hr
  cases fl with
  | next => exact hr.elim
  | brk => exact hr.elim
  | cont => exact hr.elim
  | ret obj =>
    obtain ⟨rfl, rfl⟩ := hr
    have new : (s.heap.push (freshSet w)).get? s.heap.objs.size = some (freshSet w) := Heap.get?_push_size _ rfl
    have isS : Shared.TypeIs { s with heap := s.heap.push (freshSet w) } (.ref s.heap.objs.size) "set" := ⟨_, new, rfl⟩
    have f6 := F.called_set.init.lookup
    have f7 := F.called_set.init.bind (.ref s.heap.objs.size)
    repeat (any_goals (first | assumption | wp_step))
    refine codeAny_mono (codeAny_call_builtin (R := wants (SetMade w s ns) E) F.called_set.init.plain F.entry_set_init (check_set_init_1 isS ?_)) ?_
    · have lLt : l < s.heap.objs.size := hl.elim fun o ho => Heap.lt_size ho.1
      have hl1 : (s.heap.push (freshSet w)).IsList l its := hl.push _
      obtain ⟨⟨oc, od, dat, osl⟩, ho, hc, nl, hd⟩ := id hl1
      simp only at hc hd
      subst hc hd
      have g1 := F.sub_list_set
      have g2 := F.sub_list_frozenset
      have g3 : (Value.type "list" == Value.type "dict") = false := by decide
      unfold Builtin.«set.__init__» noKeywords Builtin.Frozenset.updateFrom
      generalize hIt : pyIter = It
      wp_walk
      subst hIt
      refine wpAny_pyIter_list hl1 (wpAny_bind (wpAny_runValue ?_))
      have sz1 : (s.heap.push (freshSet w)).objs.size = s.heap.objs.size + 1 := Heap.size_push ..
      have calm3 : A.in1.in1.in1.handled = none := by simp [calm]
      have apart : l ≠ (s.heap.push (freshSet w)).objs.size := by
        rw [sz1]
        exact Nat.ne_of_lt (Nat.lt_succ_of_lt lLt)
      have outside : s.heap.objs.size ∉ [(s.heap.push (freshSet w)).objs.size, l] := by
        rw [sz1]
        simp only [List.mem_cons, List.not_mem_nil, or_false, not_or]
        exact ⟨Nat.ne_of_lt (Nat.lt_succ_self _), Nat.ne_of_gt lLt⟩
      have vals : ∀ (i : Nat) (v : Value), its[i]? = some v → ∃ k t, ns[i]? = some k ∧ v = .int k t := by
        intro i v hv
        have lt : i < ns.length := by
          rw [← many]
          exact (Array.getElem?_eq_some_iff.mp hv).1
        obtain ⟨t, e⟩ := PyProof.Rows.IntsAre.int_at hi i v (by rw [Array.getElem?_toList]; exact hv)
        exact ⟨ns[i], t, List.getElem?_eq_getElem lt, by rw [e, List.getD_eq_getElem?_getD, List.getElem?_eq_getElem lt] <;> rfl⟩
      refine set_update_ints (Walks.list calm3 _ l apart its).toS s.heap.objs.size outside ns many few vals (its.size - 0) 0 _ (by omega) (Nat.zero_le _) ⟨⟨_, Heap.get?_push_size _ rfl, rfl, rfl⟩, hl1.push _⟩ ?_ ?_
      · exact ⟨0, Nat.le_refl 0, setR_new_at (Heap.get?_push_of_some _ new)⟩
      · intro s' c' mv hc' hS'
        obtain ⟨h', gs, dr, tk, os⟩ := s'
        obtain rfl : gs = s.gens := mv.gens
        obtain rfl : dr = s.drawn := mv.drawn
        obtain rfl : os = s.os := mv.os
        refine wpAny_pure (wpAny_pure ?_)
        refine ⟨rfl, h', tk, c', rfl, hS', by omega, fun b o z => ?_⟩
        have lt := Heap.lt_size z
        refine mv.heap b o ?_ (Heap.get?_push_of_some _ (Heap.get?_push_of_some _ z))
        rw [sz1]
        simp only [List.mem_cons, List.not_mem_nil, or_false, not_or]
        exact ⟨Nat.ne_of_lt lt, Nat.ne_of_lt (Nat.lt_succ_of_lt lt)⟩
    · intro r2 s2 hr2
      rcases r2 with e | fl
      · exact hr2
      cases fl with
      | next => exact hr2.elim
      | brk => exact hr2.elim
      | cont => exact hr2.elim
      | ret r =>
        obtain ⟨rfl, h', tk, c', rfl, hS', hc', hk⟩ := hr2
        repeat (any_goals (first | assumption | wp_step))
        exact h _ _ _ hS' hc' hk
end
/-- set(xs), xs a list or a tuple of ints -/
def rSetI (K : PySem.W.Frag) (w : World) : List V → Hp → VK → Prop := fun vs H Q => ∃ (a : Addr) (ns : List Int), vs = [.ref a] ∧ (SqL K H a (ns.map V.int) ∨ SqT K H a (ns.map V.int)) ∧ ns.length ≤ 1000 ∧
  ∀ (p : Addr) (n : Nat), n ≤ ns.length → H p = none → Q (.ref p) (upd H p (SetO w p (fun j => decide (j ∈ ns)) n))
theorem call_setI {X : Cx} (hc : X.calm = true) : CallR X (.type "set") (rSetI X.K X.w) := by
  intro pins s σ H vs us Q I r h
  obtain ⟨a, ns, rfl, hx, few, q⟩ := h
  obtain ⟨u, rfl, ru⟩ := vals1 r
  cases (show u = Value.ref a from ru)
  have calm := I.ok.hd hc
  have fin : ∀ (h' : Heap) (tk c : Nat), SetR X.w h' s.heap.objs.size (fun j => decide (j ∈ ns)) c → c ≤ ns.length → (∀ b o, s.heap.get? b = some o → h'.get? b = some o) → EP X pins σ Q (.ref s.heap.objs.size) { s with heap := h', toks := tk } := by
    intro h' tk c R hc' hk
    exact ⟨.ref _, _, I.laid (t' := tk) hk (Nat.le_refl _) (setO_new R), rfl, q _ c hc' (I.hok.fresh (Nat.le_refl _))⟩
  rcases hx with hx | hx
  · obtain ⟨its, rv, pt, _⟩ := I.list hx
    exact set_of_list ns calm pt.isList (ints_of_vals rv) (by unfold scanBound; omega) fin
  · obtain ⟨its, rv, pt, _⟩ := I.tuple hx
    exact call_set_tupI ns calm (show s.heap.IsTuple a its.toArray from pt) (ints_of_vals rv) (by unfold scanBound; omega) fin
end Gd

set_option Elab.async false
set_option linter.all false
set_option maxRecDepth 100000
set_option maxHeartbeats 4000000
/-! Lc: readings of comprehensions: what stays, what is gathered; lists compared with the empty one. -/
namespace Gd
open PySem PySem.Spec PyProof.Rows L2
theorem _root_.L2.Same.upG {H G : Hp} {p : Addr} {o : HO} (s : Same H G) (n : H p = none) : Same H (upd G p o) := fun b x e => by
  rw [upd_ne (ne_of_none e n)]
  exact s b x e
theorem _root_.L2.Same.newG {H : Hp} {p : Addr} {o : HO} (n : H p = none) : Same H (upd H p o) := (Same.refl H).upG n
theorem _root_.L2.Same.tupS {K : PySem.W.Frag} {H G : Hp} {a : Addr} {xs : List V} (s : Same H G) (h : SqT K H a xs) : SqT K G a xs := by
  rcases h with (h | ⟨o, h⟩) | h
  · exact .inl (.inl (s _ _ h))
  · exact .inl (.inr ⟨o, s _ _ h⟩)
  · exact .inr h
/-- between two turns: Ok of the heap, the list at D, what it has gathered -/
def Nx (Ok : Hp → Prop) (D : Addr) (Acc : Nat → List V → Prop) (i : Nat) : Hp → Prop := fun H => ∃ acc, Ok H ∧ H D = some (.lst acc) ∧ Acc i acc
theorem nx_put {Ok : Hp → Prop} {D : Addr} {Acc : Nat → List V → Prop} {i : Nat} {H : Hp} {acc : List V} {y : V} (hup : ∀ H o, Ok H → Ok (upd H D o)) (ok : Ok H) (e : H D = some (.lst acc)) (few : acc.length ≤ 1000) (a : Acc (i + 1) (acc ++ [y])) :
    ∃ acc, H D = some (.lst acc) ∧ acc.length < sizeLine ∧ Nx Ok D Acc (i + 1) (upd H D (.lst (acc ++ [y]))) :=
  ⟨acc, e, small1000 few, acc ++ [y], hup H _ ok, upd_same, a⟩
theorem lc_any {J : It} {n : Nat} {g : TG} {tt : TT} {te : TE} {vs : List Nat} {σ : L2.St} {H1 : Hp} {D : Addr} {Qd : Hp → Prop} (Ok : Hp → Prop) (Acc : Nat → List V → Prop) (Item : Nat → V → Hp → Prop) (h0 : Ok (upd H1 D (.lst []))) (z0 : Acc 0 [])
    (hgo : ∀ i H, i < n → Nx Ok D Acc i H → J.go i H) (hst : ∀ H, Nx Ok D Acc n H → J.stop n H) (hy : ∀ i H v H', i < n → Nx Ok D Acc i H → J.yld i H v H' → Nx Ok D Acc i H' ∧ Item i v H')
    (hs : ∀ i v H, i < n → Nx Ok D Acc i H → Item i v H → g v (wipe σ vs) H fun σ2 H2 => wipe σ2 vs = wipe σ vs ∧ tt σ2 H2 fun b H3 =>
      if b = true then te σ2 H3 fun y H4 => ∃ acc, H4 D = some (.lst acc) ∧ acc.length < sizeLine ∧ Nx Ok D Acc (i + 1) (upd H4 D (.lst (acc ++ [y]))) else Nx Ok D Acc (i + 1) H3)
    (hd : ∀ H acc, Ok H → H D = some (.lst acc) → Acc n acc → Qd H) :
    ∃ W : Nat → Nat → Hp → Prop, (∃ m, W 0 m (upd H1 D (.lst []))) ∧ ∀ i m H, W i m H →
      (J.stop i H ∧ Qd H) ∨ (J.go i H ∧ ∃ N : Hp → Prop, (∀ H', N H' → ∃ m', m' < m ∧ W (i + 1) m' H') ∧ ∀ x H', J.yld i H x H' → g x (wipe σ vs) H' fun σ2 H2 => wipe σ2 vs = wipe σ vs ∧ tt σ2 H2 fun b H3 =>
        if b = true then te σ2 H3 fun y H4 => ∃ acc, H4 D = some (.lst acc) ∧ acc.length < sizeLine ∧ N (upd H4 D (.lst (acc ++ [y]))) else N H3) := by
  refine ⟨fun i m H => i + m = n ∧ Nx Ok D Acc i H, ⟨n, by omega, [], h0, upd_same, z0⟩, ?_⟩
  rintro i m H ⟨e, nx⟩
  by_cases hi : i < n
  · refine .inr ⟨hgo i H hi nx, Nx Ok D Acc (i + 1), fun H' z => ⟨m - 1, by omega, by omega, z⟩, fun v H' y => ?_⟩
    obtain ⟨z1, z2⟩ := hy i H v H' hi nx y
    exact hs i v H' hi z1 z2
  · obtain rfl : i = n := by omega
    obtain ⟨acc, a, b, c⟩ := nx
    exact .inl ⟨hst H ⟨acc, a, b, c⟩, hd H acc a b c⟩
section
variable {K : PySem.W.Frag} {a : Addr} {xs : List V} {g : TG} {tt : TT} {te : TE} {vs : List Nat} {σ : L2.St} {H1 : Hp} {D : Addr} {Qd : Hp → Prop}
/-- over a tuple that stays -/
theorem lc_tupG (Ok : Hp → Prop) (Acc : Nat → List V → Prop) (hS : ∀ H, Ok H → SqT K H a xs) (h0 : Ok (upd H1 D (.lst []))) (z0 : Acc 0 [])
    (hs : ∀ i v H, i < xs.length → Nx Ok D Acc i H → xs[i]? = some v → g v (wipe σ vs) H fun σ2 H2 => wipe σ2 vs = wipe σ vs ∧ tt σ2 H2 fun b H3 =>
      if b = true then te σ2 H3 fun y H4 => ∃ acc, H4 D = some (.lst acc) ∧ acc.length < sizeLine ∧ Nx Ok D Acc (i + 1) (upd H4 D (.lst (acc ++ [y]))) else Nx Ok D Acc (i + 1) H3)
    (hd : ∀ H acc, Ok H → H D = some (.lst acc) → Acc xs.length acc → Qd H) :
    ∃ W : Nat → Nat → Hp → Prop, (∃ m, W 0 m (upd H1 D (.lst []))) ∧ ∀ i m H, W i m H →
      ((Itt K a).stop i H ∧ Qd H) ∨ ((Itt K a).go i H ∧ ∃ N : Hp → Prop, (∀ H', N H' → ∃ m', m' < m ∧ W (i + 1) m' H') ∧ ∀ x H', (Itt K a).yld i H x H' → g x (wipe σ vs) H' fun σ2 H2 => wipe σ2 vs = wipe σ vs ∧ tt σ2 H2 fun b H3 =>
        if b = true then te σ2 H3 fun y H4 => ∃ acc, H4 D = some (.lst acc) ∧ acc.length < sizeLine ∧ N (upd H4 D (.lst (acc ++ [y]))) else N H3) :=
  lc_any (J := Itt K a) (n := xs.length) Ok Acc (fun i v _ => xs[i]? = some v) h0 z0 (fun i H hi ⟨acc, o, _⟩ => ⟨xs, xs[i], hS H o, List.getElem?_eq_getElem hi⟩)
    (fun H ⟨acc, o, _⟩ => ⟨xs, hS H o, Nat.le_refl _⟩) (fun i H v H' hi nx ⟨e, f⟩ => by
      subst e
      obtain ⟨acc, o, r⟩ := nx
      exact ⟨⟨acc, o, r⟩, f xs (hS _ o)⟩) hs hd
/-- over the signs of a text -/
theorem lc_strG {x : Str} (Ok : Hp → Prop) (Acc : Nat → List V → Prop) (h0 : Ok (upd H1 D (.lst []))) (z0 : Acc 0 [])
    (hs : ∀ i c H, x.cps[i]? = some c → Nx Ok D Acc i H → g (.str ⟨#[c]⟩) (wipe σ vs) H fun σ2 H2 => wipe σ2 vs = wipe σ vs ∧ tt σ2 H2 fun b H3 =>
      if b = true then te σ2 H3 fun y H4 => ∃ acc, H4 D = some (.lst acc) ∧ acc.length < sizeLine ∧ Nx Ok D Acc (i + 1) (upd H4 D (.lst (acc ++ [y]))) else Nx Ok D Acc (i + 1) H3)
    (hd : ∀ H acc, Ok H → H D = some (.lst acc) → Acc x.cps.size acc → Qd H) :
    ∃ W : Nat → Nat → Hp → Prop, (∃ m, W 0 m (upd H1 D (.lst []))) ∧ ∀ i m H, W i m H →
      ((Its x).stop i H ∧ Qd H) ∨ ((Its x).go i H ∧ ∃ N : Hp → Prop, (∀ H', N H' → ∃ m', m' < m ∧ W (i + 1) m' H') ∧ ∀ v H', (Its x).yld i H v H' → g v (wipe σ vs) H' fun σ2 H2 => wipe σ2 vs = wipe σ vs ∧ tt σ2 H2 fun b H3 =>
        if b = true then te σ2 H3 fun y H4 => ∃ acc, H4 D = some (.lst acc) ∧ acc.length < sizeLine ∧ N (upd H4 D (.lst (acc ++ [y]))) else N H3) :=
  lc_any (J := Its x) (n := x.cps.size) Ok Acc (fun i v _ => ∃ c, x.cps[i]? = some c ∧ v = .str ⟨#[c]⟩) h0 z0 (fun i H hi _ => hi) (fun H _ => Nat.le_refl _)
    (fun i H v H' hi nx ⟨e, f⟩ => by
      subst e
      exact ⟨nx, f⟩)
    (fun i v H hi nx ⟨c, hc, e⟩ => by
      subst e
      exact hs i c H hc nx) hd
/-- over pairs of two tuples that stay -/
theorem lc_zipG {b : Addr} {ys : List V} {n : Nat} (hx : n ≤ xs.length) (hy : n ≤ ys.length) (hn : xs.length ≤ n ∨ ys.length ≤ n) (Ok : Hp → Prop) (Acc : Nat → List V → Prop) (hS : ∀ H, Ok H → SqT K H a xs ∧ SqT K H b ys)
    (hup : ∀ H T o, T ≠ D → H T = none → Ok H → Ok (upd H T o)) (h0 : Ok (upd H1 D (.lst []))) (z0 : Acc 0 [])
    (hs : ∀ i x y T H, xs[i]? = some x → ys[i]? = some y → Nx Ok D Acc i H → H T = some (.tup [x, y]) → g (.ref T) (wipe σ vs) H fun σ2 H2 => wipe σ2 vs = wipe σ vs ∧ tt σ2 H2 fun b H3 =>
      if b = true then te σ2 H3 fun y H4 => ∃ acc, H4 D = some (.lst acc) ∧ acc.length < sizeLine ∧ Nx Ok D Acc (i + 1) (upd H4 D (.lst (acc ++ [y]))) else Nx Ok D Acc (i + 1) H3)
    (hd : ∀ H acc, Ok H → H D = some (.lst acc) → Acc n acc → Qd H) :
    ∃ W : Nat → Nat → Hp → Prop, (∃ m, W 0 m (upd H1 D (.lst []))) ∧ ∀ i m H, W i m H →
      ((RZ.ItzT K a b).stop i H ∧ Qd H) ∨ ((RZ.ItzT K a b).go i H ∧ ∃ N : Hp → Prop, (∀ H', N H' → ∃ m', m' < m ∧ W (i + 1) m' H') ∧ ∀ v H', (RZ.ItzT K a b).yld i H v H' → g v (wipe σ vs) H' fun σ2 H2 => wipe σ2 vs = wipe σ vs ∧ tt σ2 H2 fun b H3 =>
        if b = true then te σ2 H3 fun y H4 => ∃ acc, H4 D = some (.lst acc) ∧ acc.length < sizeLine ∧ N (upd H4 D (.lst (acc ++ [y]))) else N H3) :=
  lc_any (J := RZ.ItzT K a b) (n := n) Ok Acc (fun i v H => ∃ x y T, xs[i]? = some x ∧ ys[i]? = some y ∧ v = .ref T ∧ H T = some (.tup [x, y])) h0 z0
    (fun i H hi ⟨acc, o, _⟩ => ⟨xs, ys, _, _, (hS H o).1, (hS H o).2, List.getElem?_eq_getElem (by omega), List.getElem?_eq_getElem (by omega)⟩)
    (fun H ⟨acc, o, _⟩ => ⟨xs, ys, (hS H o).1, (hS H o).2, hn⟩)
    (fun i H v H' hi nx ⟨T, x, y, e1, nT, e2, f1, f2⟩ => by
      subst e1 e2
      obtain ⟨acc, o, e, r⟩ := nx
      have ne : D ≠ T := ne_of_none e nT
      exact ⟨⟨acc, hup H T _ ne.symm nT o, by rw [upd_ne ne]; exact e, r⟩, x, y, T, f1 xs (hS H o).1, f2 ys (hS H o).2, rfl, upd_same⟩)
    (fun i v H hi nx ⟨x, y, T, hx, hy, e, hT⟩ => by
      subst e
      exact hs i x y T H hx hy nx hT) hd
end
theorem tyes {X Y : Hp → Prop} {σ : L2.St} {H : Hp} (h : X H) : tYes σ H (fun b G => if b = true then X G else Y G) := by
  show (if true = true then X H else Y H)
  rw [if_pos rfl]
  exact h
/-! ### t[i:j], t + u: some tuple -/
def rSlU (K : PySem.W.Frag) : V → Option Int → Option Int → Hp → VK → Prop := fun x lo hi H Q => ∃ a xs, x = .ref a ∧ SqT K H a xs ∧ ∀ b G, Same H G → SqT K G b (cutV xs lo hi) → Q (.ref b) G
theorem sl_tupU {X : Cx} : SlR X (rSlU X.K) := by
  intro pins s σ H x v vl vu lo hi sl Q I rx hs pl pu h
  obtain ⟨a, xs, rfl, hx, q⟩ := h
  refine sl_tupA pins s σ H _ v vl vu lo hi sl Q I rx hs pl pu ⟨a, xs, rfl, hx, fun e => q a H (Same.refl H) ?_, fun _ p np => q p _ (Same.newG np) (.inl (.inl upd_same))⟩
  have z : cutV xs lo hi = xs := by
    unfold cutV
    rw [e.1, e.2, List.drop_zero, Nat.sub_zero, List.take_length]
  rw [z]
  exact hx
def rCatU (K : PySem.W.Frag) : R2 := fun x y H Q => ∃ a b xs ys, x = .ref a ∧ y = .ref b ∧ SqT K H a xs ∧ SqT K H b ys ∧ xs.length + ys.length ≤ sizeLine ∧ ∀ c G, Same H G → SqT K G c (xs ++ ys) → Q (.ref c) G
theorem op_catU {X : Cx} : OpR X (binaryOp .Add) (rCatU X.K) := by
  intro pins s σ H x y v u Q I rx ry h
  obtain ⟨a, b, xs, ys, rfl, rfl, hx, hy, few, q⟩ := h
  refine op_catA pins s σ H _ _ v u Q I rx ry ⟨a, b, xs, ys, rfl, rfl, hx, hy, few, fun e => q b H (Same.refl H) ?_, fun _ e => q a H (Same.refl H) ?_, fun _ _ p np => q p _ (Same.newG np) (.inl (.inl upd_same))⟩
  · rw [e]
    exact hy
  · rw [e, List.append_nil]
    exact hx
def rSlV : V → Option Int → Option Int → Hp → VK → Prop := fun x lo hi H Q => ∃ a xs, x = .ref a ∧ H a = some (.tup xs) ∧ ∀ b G, Same H G → G b = some (.tup (cutV xs lo hi)) → Q (.ref b) G
theorem sl_tupV {X : Cx} : SlR X rSlV := by
  intro pins s σ H x v vl vu lo hi sl Q I rx hs pl pu h
  obtain ⟨a, xs, rfl, hx, q⟩ := h
  refine sl_tupA pins s σ H _ v vl vu lo hi sl Q I rx hs pl pu ⟨a, xs, rfl, .inl (.inl hx), fun e => q a H (Same.refl H) ?_, fun _ p np => q p _ (Same.newG np) upd_same⟩
  have z : cutV xs lo hi = xs := by
    unfold cutV
    rw [e.1, e.2, List.drop_zero, Nat.sub_zero, List.take_length]
  rw [z]
  exact hx
def rCatV : R2 := fun x y H Q => ∃ a b xs ys, x = .ref a ∧ y = .ref b ∧ H a = some (.tup xs) ∧ H b = some (.tup ys) ∧ xs.length + ys.length ≤ sizeLine ∧ ∀ c G, Same H G → G c = some (.tup (xs ++ ys)) → Q (.ref c) G
theorem op_catV {X : Cx} : OpR X (binaryOp .Add) rCatV := by
  intro pins s σ H x y v u Q I rx ry h
  obtain ⟨a, b, xs, ys, rfl, rfl, hx, hy, few, q⟩ := h
  refine op_catA pins s σ H _ _ v u Q I rx ry ⟨a, b, xs, ys, rfl, rfl, .inl (.inl hx), .inl (.inl hy), few, fun e => q b H (Same.refl H) ?_, fun _ e => q a H (Same.refl H) ?_, fun _ _ p np => q p _ (Same.newG np) upd_same⟩
  · rw [e]
    exact hy
  · rw [e, List.append_nil]
    exact hx
/-! ### a list == [], != [] -/
def rNil (f : Bool → Bool) (K : PySem.W.Frag) : R2 := fun x y H Q => ∃ a b xs, x = .ref a ∧ y = .ref b ∧ SqL K H a xs ∧ SqL K H b [] ∧ Q (.bl (f xs.isEmpty)) H
theorem op_eqNil {X : Cx} (hu : X.A.units < cLine) : OpR X (compareOp .Eq) (rNil id X.K) := by
  intro pins s σ H x y v u Q I rx ry h
  obtain ⟨a, b, xs, rfl, rfl, h1, h2, q⟩ := h
  cases (show v = Value.ref a from rx)
  cases (show u = Value.ref b from ry)
  obtain ⟨its, r1, p1, _⟩ := I.list h1
  obtain ⟨its2, r2, p2, _⟩ := I.list h2
  cases r2
  cases r1 with
  | nil =>
    exact SeqAt.eq_listAt (e := fun _ => true) p1.isList p2.isList rfl hu (fun j z _ => absurd z (by simp)) ⟨.bl true, H, I, rfl, q⟩
  | cons _ _ => exact SeqAt.eq_list_lengthsAt p1.isList p2.isList (by simp) hu ⟨.bl false, H, I, rfl, q⟩
theorem op_neNil {X : Cx} (hu : X.A.units < cLine) : OpR X (compareOp .NotEq) (rNil (!·) X.K) := by
  intro pins s σ H x y v u Q I rx ry h
  obtain ⟨a, b, xs, rfl, rfl, h1, h2, q⟩ := h
  cases (show v = Value.ref a from rx)
  cases (show u = Value.ref b from ry)
  obtain ⟨its, r1, p1, _⟩ := I.list h1
  obtain ⟨its2, r2, p2, _⟩ := I.list h2
  cases r2
  cases r1 with
  | nil => exact SeqAt.RcNeAt.lists (e := fun _ => true) p1.isList p2.isList rfl hu (fun j z _ => absurd z (by simp)) _ _ _ _ ⟨.bl false, H, I, rfl, q⟩
  | cons _ _ => exact SeqAt.RcNeAt.lists_lengths p1.isList p2.isList (by simp) hu _ _ _ _ ⟨.bl true, H, I, rfl, q⟩
end Gd

set_option Elab.async false
set_option linter.all false
set_option maxRecDepth 100000
set_option maxHeartbeats 4000000
namespace Gd
open PySem PySem.Spec PyProof.Rows L2
/-- the heap once a tuple's items are gathered into a new list -/
abbrev gath (h : Heap) (its : Array Value) : Heap := (h.push { cls := .type "list", data := .seq ([] : List Value).toArray }).update h.objs.size (Obj.mapSeq (· ++ its))
theorem gath_old {h : Heap} {its : Array Value} {b : Addr} {o : Obj} (e : h.get? b = some o) : (gath h its).get? b = some o :=
  (Heap.get?_update_other _ _ (Nat.ne_of_gt (Heap.lt_size e))).trans (Heap.get?_push_of_some _ e)
theorem gath_size (h : Heap) (its : Array Value) : (gath h its).objs.size = h.objs.size + 1 := by
  rw [Heap.size_update, size_push']
theorem gather_tuple {P : Program} {w : World} {A : Around} {E : Value → Shared → Prop} {s : Shared} {t : Addr} {o : Obj} {its : Array Value} {n : Nat} {Q : List Value → Shared → Prop} (ho : s.heap.get? t = some o) (hc : o.cls = .type "tuple") (hd : o.data = .seq its n)
    (few : its.size ≤ sizeLine) (q : Q its.toList { s with heap := gath s.heap its }) : wpAny (model P w) A (collect (.ref t)) Q E s := by
  have new : (s.heap.push { cls := .type "list", data := .seq ([] : List Value).toArray }).get? s.heap.objs.size = some { cls := .type "list", data := .seq #[] 0 } := Heap.get?_push_size _ rfl
  have full := Heap.get?_update_self (Obj.mapSeq (· ++ its)) new rfl
  unfold collect
  apply wpAny_bind
  apply wpAny_runValue
  refine codeAny_builtin F.entry_proto_collect ?_
  rw [Around.under_plainId F.plain_proto_collect _]
  show wpAny _ A.in1 (newList [] >>= fun l => again (.builtin "list.__iadd__" ⟨[l, .ref t], []⟩)) _ _ s
  refine wpAny_bind (wpAny_newObj_type (wpAny_pure ⟨plainId_quiet F.plain_list_iadd _, codeAny_builtin F.entry_list_iadd ?_⟩))
  rw [Around.under_plainId F.plain_list_iadd _]
  have fin : wpAny (model P w) A (match Value.ref s.heap.objs.size with
      | Value.ref a => do
        match (← load a).data with
          | Data.seq xs _ => pure xs.toList
          | _ => unsupported "internal:collect"
      | _ => unsupported "internal:collect") Q E { s with heap := gath s.heap its } := by
    show wpAny _ A (load s.heap.objs.size >>= _) _ _ _
    refine wpAny_bind (wpAny_load full (wpAny_pure ?_))
    show Q ((#[] : Array Value) ++ its).toList _
    rw [show ((#[] : Array Value) ++ its).toList = its.toList by simp]
    exact q
  refine wpAny_mono (wpAny_extend_seq (hsz := few) (A := A) (R := fun r t' => r = .ok (.ret (.ref s.heap.objs.size)) ∧ t' = { s with heap := gath s.heap its }) (s := { s with heap := s.heap.push { cls := .type "list", data := .seq ([] : List Value).toArray } }) _ t _ 0 (.inr rfl) new (Heap.get?_push_of_some _ ho) hc hd ⟨rfl, rfl⟩) ?_ ?_
  · intro f t' hf
    cases f with
    | done r =>
      obtain ⟨e, rfl⟩ := hf
      cases e
      exact fin
    | again c =>
      refine ⟨hf.1, codeAny_mono hf.2 ?_⟩
      rintro r t2 ⟨rfl, rfl⟩
      exact fin
  · rintro e t' ⟨z, _⟩
    cases z
/-- sorted(t) of a tuple of ints -/
def rSortT (K : PySem.W.Frag) : List V → Hp → VK → Prop := fun vs H Q => ∃ (a : Addr) (ns : List Int), vs = [V.ref a] ∧ SqT K H a (ns.map V.int) ∧ ns.length < 64 ∧
  ∀ (ms : List Int) (p : Addr), ms.Perm ns → ms.Pairwise (· ≤ ·) → H p = none → Q (.ref p) (upd H p (.lst (ms.map V.int)))
theorem call_sortT {X : Cx} : CallR X (.builtin "sorted") (rSortT X.K) := by
  intro pins s σ H vs us Q I r h
  obtain ⟨a, ns, rfl, hS, few, q⟩ := h
  obtain ⟨its, rv, pt, _⟩ := I.tuple hS
  rw [Vals.ref1 r]
  have hi : IntsAre its ns := ints_of_vals rv
  obtain ⟨o, ho, hc, n, hd⟩ := id pt
  refine Calls.call_function_entry kind_sorted plain_sorted entry_sorted (args_sorted1 _) ?_
  unfold Builtin.«sorted»
  refine wpAny_bind (m := checkCount "sorted" 1 1 _) (wpAny_pure ?_)
  refine wpAny_bind (gather_tuple (A := X.A.in1) ho hc hd (by rw [List.size_toArray, hi.length, sizeLine_eq]; omega) ?_)
  generalize hg : gath s.heap its.toArray = h'
  have hk : ∀ b u, s.heap.get? b = some u → h'.get? b = some u := fun b u e => by
    rw [← hg]
    exact gath_old e
  show wpAny _ _ _ _ _ { s with heap := h' }
  have len : its.length < 64 := by rw [hi.length]; exact few
  refine wpAny_bind (wpAny_newList ?_ (by show its.length ≤ _; rw [sizeLine_eq]; omega))
  have hoL : (h'.push (seqObj "list" its.toArray 0)).get? h'.objs.size = some (seqObj "list" its.toArray 0) := Heap.get?_push_size _ rfl
  refine wpAny_bind (wpAny_holding (wpAny_call_entry slot_list_sort ⟨_, hoL, rfl⟩ entry_list_sort (list_sort_tree hoL hi len fun out ms a1 a2 a3 => ⟨_, rfl, ?_⟩) (args_list_sort _)))
  obtain ⟨c, hcc⟩ := sortedHeap_at (vs := its) (out := out) hoL
  have keep : ∀ b u, s.heap.get? b = some u → (sortedHeap (h'.push (seqObj "list" its.toArray 0)) h'.objs.size its out).get? b = some u := by
    intro b u e
    have e2 := hk b u e
    have lt := Heap.lt_size e2
    rw [sortedHeap_old (Nat.ne_of_lt lt) (by rw [size_push']; exact Nat.lt_succ_of_lt lt)]
    exact Heap.get?_push_of_some _ e2
  have hz : s.heap.objs.size ≤ h'.objs.size := by
    rw [← hg, gath_size]
    exact Nat.le_succ _
  have few2 : (ms.map V.int).length ≤ sizeLine := by rw [List.length_map, a2.length_eq]; exact small64 few
  exact wpAny_pure ⟨_, rfl, .ref _, upd H h'.objs.size (.lst (ms.map V.int)), I.laid (t' := s.toks) keep hz ⟨few2, out.toList, c, vals_of_ints a1, hcc⟩, rfl, q ms _ a2 a3 (I.hok.fresh hz)⟩
end Gd

set_option Elab.async false
set_option linter.all false
set_option maxRecDepth 100000
set_option maxHeartbeats 4000000
/-! Ti: sorted(..) of a list or tuple of tuples of ints, none of which is empty. -/
namespace Gd
open PySem PySem.Spec PyProof.Rows L2 SrtO
/-! ### the order of int lists -/
def lexI : List Int → List Int → Bool
  | [], [] => false
  | [], _ :: _ => true
  | _ :: _, [] => false
  | x :: xs, y :: ys => if x = y then lexI xs ys else decide (x < y)
theorem lexI_eq {x : Int} {xs ys : List Int} : lexI (x :: xs) (x :: ys) = lexI xs ys := by
  show (if x = x then lexI xs ys else decide (x < x)) = _
  rw [if_pos rfl]
theorem lexI_ne {x y : Int} {xs ys : List Int} (h : x ≠ y) : lexI (x :: xs) (y :: ys) = decide (x < y) := if_neg h
theorem lexI_asym : ∀ x y : List Int, lexI x y = true → lexI y x = false
  | [], [], h => by cases h
  | [], _ :: _, _ => rfl
  | _ :: _, [], h => by cases h
  | x :: xs, y :: ys, h => by
    by_cases e : x = y
    · subst e
      rw [lexI_eq] at h ⊢
      exact lexI_asym xs ys h
    · rw [lexI_ne e, decide_eq_true_eq] at h
      rw [lexI_ne (Ne.symm e), decide_eq_false_iff_not]
      omega
theorem lexI_tr : ∀ x y z : List Int, lexI y x = false → lexI z y = false → lexI z x = false
  | [], _, [], _, _ => rfl
  | [], _, _ :: _, _, _ => rfl
  | _ :: _, [], _, h, _ => by cases h
  | _ :: _, _ :: _, [], _, h => by cases h
  | x :: xs, y :: ys, z :: zs, h1, h2 => by
    by_cases e1 : y = x
    · subst e1
      rw [lexI_eq] at h1
      by_cases e2 : z = y
      · subst e2
        rw [lexI_eq] at h2 ⊢
        exact lexI_tr xs ys zs h1 h2
      · rw [lexI_ne e2] at h2 ⊢
        exact h2
    · rw [lexI_ne e1, decide_eq_false_iff_not] at h1
      by_cases e2 : z = y
      · subst e2
        rw [lexI_ne e1, decide_eq_false_iff_not]
        omega
      · rw [lexI_ne e2, decide_eq_false_iff_not] at h2
        rw [lexI_ne (by omega), decide_eq_false_iff_not]
        omega
theorem lexI_swo {α : Type} (k : α → List Int) : Swo fun v u => lexI (k v) (k u) := ⟨fun x y => lexI_asym (k x) (k y), fun x y z => lexI_tr (k x) (k y) (k z)⟩
theorem lexI_tot : ∀ x y : List Int, lexI x y = false → lexI y x = false → x = y
  | [], [], _, _ => rfl
  | [], _ :: _, h, _ => by cases h
  | _ :: _, [], _, h => by cases h
  | x :: xs, y :: ys, h1, h2 => by
    by_cases e : x = y
    · subst e
      rw [lexI_eq] at h1 h2
      rw [lexI_tot xs ys h1 h2]
    · rw [lexI_ne e, decide_eq_false_iff_not] at h1
      rw [lexI_ne (Ne.symm e), decide_eq_false_iff_not] at h2
      omega
/-- v is a tuple of these ints -/
def IsIT (h : Heap) (v : Value) (ns : List Int) : Prop := ∃ a o its n, v = .ref a ∧ h.get? a = some o ∧ o.cls = .type "tuple" ∧ o.data = .seq its n ∧ Vals (ns.map V.int) its.toList
section
variable {prog : Program} {w : World} {A : Around} {s : Shared} {E : Value → Shared → Prop}
theorem lex_run {b fin : Bool} {Q : Bool → Shared → Prop} : ∀ (xs ys : List Int) (us ws : List Value) (i : Nat), Vals (xs.map V.int) us → Vals (ys.map V.int) ws → fin = decide (xs.length < ys.length) → Q (lexI xs ys) s → PySem.W.KatLex prog w A b fin Q (us.zip ws) i s
  | [], ys, _, ws, i, .nil, r2, e, q => by
    have z : fin = lexI [] ys := by
      rw [e]
      cases ys with
      | nil => rfl
      | cons y t => exact decide_eq_true (Nat.succ_pos _)
    subst z
    exact PySem.W.kat_nil q
  | x :: xs, [], u :: us, _, i, .cons r r1, .nil, e, q => by
    have z : fin = lexI (x :: xs) [] := by
      rw [e]
      exact decide_eq_false (Nat.not_lt_zero _)
    subst z
    exact PySem.W.kat_nil q
  | x :: xs, y :: ys, u :: us, v :: ws, i, .cons r r1, .cons r' r2, e, q => by
    obtain ⟨t, rfl⟩ := (show ∃ t, u = Value.int x t from r)
    obtain ⟨t', rfl⟩ := (show ∃ t, v = Value.int y t from r')
    refine PySem.W.kat_cons (SeqAt.EqAt.int_int x t y t' prog w _ _ ?_)
    refine PySem.W.kat_go (fun e1 => ?_) (fun e1 => ?_)
    · have ex : x = y := by simpa using e1
      subst ex
      rw [lexI_eq] at q
      exact PySem.W.kat_yes (lex_run xs ys us ws (i + 1) r1 r2 (by
        rw [e]
        exact decide_eq_decide.mpr (by simp)) q)
    · have ex : ¬ x = y := by simpa using e1
      rw [lexI_ne ex] at q
      exact PySem.W.kat_no (TS.oneLt_ints _ q)
theorem tup_cmp {vs : List Value} {k : Value → List Int} (hp : ∀ v ∈ vs, IsIT s.heap v (k v)) : Cmp prog w A s (tuples' true) (fun p => p.1 ∈ vs) (lt2 fun v u => lexI (k v) (k u)) := by
  intro p q hm hm'
  have h1 := hp _ hm
  have h2 := hp _ hm'
  show wpAny (model prog w) A (keyLt' (tuples' true) p.1 q.1) (fun r s' => s' = s ∧ r = lexI (k p.1) (k q.1)) (fun _ _ => False) s
  generalize k p.1 = xs at h1 ⊢
  generalize k q.1 = ys at h2 ⊢
  obtain ⟨a, o, its, n, e, ho, hc, hd, rv⟩ := h1
  obtain ⟨a', o', its', n', e', ho', hc', hd', rv'⟩ := h2
  rw [e, e']
  refine PySem.W.kat_lt ho hd ho' hd' (lex_run xs ys _ _ 0 rv rv' ?_ ⟨rfl, rfl⟩)
  have l1 : xs.length = its.size := by
    have z := rv.length
    rw [List.length_map] at z
    simpa using z
  have l2 : ys.length = its'.size := by
    have z := rv'.length
    rw [List.length_map] at z
    simpa using z
  rw [l1, l2]
theorem firstsI {h : Heap} {k : Value → List Int} : ∀ vs : List Value, (∀ v ∈ vs, IsIT h v (k v) ∧ k v ≠ []) → ∃ fs, PySem.W.KatTups h vs fs ∧ fs.length = vs.length ∧ ∀ f ∈ fs, ∃ x t, f = .int x t
  | [], _ => ⟨[], .nil, rfl, fun f hf => by cases hf⟩
  | v :: vs, hp => by
    obtain ⟨fs, t, l, hf⟩ := firstsI (h := h) (k := k) vs fun u hu => hp u (List.mem_cons_of_mem _ hu)
    obtain ⟨⟨a, o, its, n, e, ho, hc, hd, rv⟩, ne⟩ := hp v List.mem_cons_self
    cases hk : k v with
    | nil => exact absurd hk ne
    | cons x xs =>
      rw [hk] at rv
      obtain ⟨l0⟩ := its
      cases rv with
      | @cons _ u _ us r rs =>
        obtain ⟨tk, rfl⟩ := (show ∃ t, u = Value.int x t from r)
        subst e
        exact ⟨.int x tk :: fs, .cons ho hc hd (by rfl) t, by rw [List.length_cons, l]; rfl, fun f hm => by
          rcases List.mem_cons.mp hm with rfl | hm
          · exact ⟨x, tk, rfl⟩
          · exact hf f hm⟩
theorem tups_sortable {a : Addr} {vs : List Value} {k : Value → List Int} (h0 : 0 < vs.length) (hp : ∀ v ∈ vs, IsIT s.heap v (k v) ∧ k v ≠ []) (ha : ∀ o, s.heap.get? a = some o → o.cls ≠ .type "tuple") : SortableO prog w A s a vs fun v u => lexI (k v) (k u) := by
  intro h' keep
  have hp' : ∀ v ∈ vs, IsIT h' v (k v) ∧ k v ≠ [] := fun v hm => by
    obtain ⟨⟨b, o, its, n, e, ho, hc, hd, rv⟩, ne⟩ := hp v hm
    exact ⟨⟨b, o, its, n, e, keep b o (fun z => by subst z; exact ha o ho hc) ho, hc, hd, rv⟩, ne⟩
  obtain ⟨fs, h1, h2, h3⟩ := firstsI vs hp'
  refine ⟨tuples' true, fun Q E hq => ?_, tup_cmp fun v hv => (hp' v hv).1⟩
  refine PySem.W.kat_kind (T := .type "int") h1 (by omega) (fun f hm => ?_) (by rfl) ?_
  · obtain ⟨x, t, rfl⟩ := h3 f hm
    exact PySem.W.Looks.now
  · have e : (Value.type "int" != Value.type "tuple") = true := by first | decide +kernel | rfl | decide
    rw [e]
    exact hq
end
abbrev ltI (k : V → List Int) (x y : V) : Bool := lexI (k x) (k y)
/-- sorted(xs), xs a list or tuple of tuples of ints, none empty (k says which) -/
def rSortI2 (K : PySem.W.Frag) : List V → Hp → VK → Prop := fun vs H Q => ∃ (a : Addr) (xs : List V) (k : V → List Int), vs = [V.ref a] ∧ (SqL K H a xs ∨ SqT K H a xs) ∧ (∀ x ∈ xs, ∃ t, x = V.ref t ∧ SqT K H t ((k x).map V.int) ∧ k x ≠ []) ∧
  ∀ ys p, Srtd (ltI k) ys → Stb (ltI k) ys xs → H p = none → Q (.ref p) (upd H p (.lst ys))
theorem call_sortI2 {X : Cx} : CallR X (.builtin "sorted") (rSortI2 X.K) := by
  intro pins s σ H vs us Q I r h
  obtain ⟨a, xs, k, rfl, hs, hx, q⟩ := h
  obtain ⟨u, rfl, ru⟩ := vals1 r
  obtain rfl : u = Value.ref a := ru
  have items : ∀ {its : List Value}, Vals xs its → xs = its.map backV ∧ (∀ u ∈ its, ∃ a, u = Value.ref a) ∧ ∀ v ∈ its, IsIT s.heap v (k (backV v)) ∧ k (backV v) ≠ [] := fun {its} rv => by
    obtain ⟨e1, e2⟩ := refs_back rv fun x m => by
      obtain ⟨t, e, _⟩ := hx x m
      exact ⟨t, e⟩
    refine ⟨e1, e2, fun v hv => ?_⟩
    obtain ⟨t, rfl⟩ := e2 v hv
    have hm : V.ref t ∈ xs := by rw [e1]; exact List.mem_map.mpr ⟨_, hv, rfl⟩
    obtain ⟨t', e, ht, ne⟩ := hx _ hm
    cases e
    obtain ⟨its2, r2, ⟨o, ho, hc, n, hd⟩, _⟩ := I.tuple ht
    exact ⟨⟨t, o, its2.toArray, n, rfl, ho, hc, hd, r2⟩, ne⟩
  have fin : ∀ {its out : List Value} {h' : Heap} {d c : Nat}, Vals xs its → xs.length ≤ sizeLine → (∀ b o, s.heap.get? b = some o → h'.get? b = some o) → s.heap.objs.size ≤ d → h'.get? d = some (seqObj "list" out.toArray c) →
      Srtd (fun v u => lexI (k (backV v)) (k (backV u))) out → Stb (fun v u => lexI (k (backV v)) (k (backV u))) out its → EP X pins σ Q (.ref d) { s with heap := h' } := fun {its out h' d c} rv hz kp hd hn h1 h2 => by
    obtain ⟨e1, e2, _⟩ := items rv
    have h3 : ∀ u ∈ out, ∃ a, u = Value.ref a := fun u hu => e2 u (h2.perm.mem_iff.mp hu)
    have hb : Stb (ltI k) (out.map backV) xs := by
      rw [e1]
      exact Stb.map (lexI_swo k) backV h2
    refine ⟨.ref d, upd H d (.lst (out.map backV)), I.laid (t' := s.toks) kp hd ⟨?_, out, c, vals_back h3, hn⟩, rfl, q _ d (srtd_map h1) hb (I.hok.fresh hd)⟩
    rw [hb.len]
    exact hz
  rcases hs with hs | hs
  · obtain ⟨its, rv, hl, hz⟩ := I.list hs
    obtain ⟨e1, e2, e3⟩ := items rv
    refine sorted_ord (lexI_swo fun v => k (backV v)) hl.isList (by rw [← rv.length]; exact hz) (fun h2 h₁ a' ha kk => ?_) fun out h1 h2 => ?_
    · refine tups_sortable (s := { s with heap := h₁ }) (by omega) (fun v hm => ?_) fun o e => ?_
      · obtain ⟨⟨b, o, its2, n, e, ho, hc, hd, rv2⟩, ne⟩ := e3 v hm
        exact ⟨⟨b, o, its2, n, e, (kk b o ho).2, hc, hd, rv2⟩, ne⟩
      · have e' : some o = some (seqObj "list" its.toArray 0) := e.symm.trans ha
        cases e'
        intro c
        exact absurd (Value.type.inj c) (by decide)
    · obtain ⟨c, hcc⟩ := sortedAll_at s.heap its out.toArray
      exact fin rv hz (fun b o e => sortedAll_old e) (Nat.le_succ _) hcc h1 h2
  · obtain ⟨its, rv, pt, hz⟩ := I.tuple hs
    obtain ⟨e1, e2, e3⟩ := items rv
    obtain ⟨o, ho, hc, n, hd⟩ := id pt
    have len : its.length ≤ sizeLine := by rw [← rv.length]; exact hz
    refine Calls.call_function_entry kind_sorted plain_sorted entry_sorted (args_sorted1 _) ?_
    unfold Builtin.«sorted»
    refine wpAny_bind (m := checkCount "sorted" 1 1 _) (wpAny_pure ?_)
    refine wpAny_bind (gather_tuple (A := X.A.in1) ho hc hd (by rw [List.size_toArray]; exact len) ?_)
    generalize hg : gath s.heap its.toArray = h'
    have hk : ∀ b u, s.heap.get? b = some u → h'.get? b = some u := fun b u e => by
      rw [← hg]
      exact gath_old e
    show wpAny _ _ _ _ _ { s with heap := h' }
    refine wpAny_bind (wpAny_newList ?_ (by show its.length ≤ _; exact len))
    have hoL : (h'.push (seqObj "list" its.toArray 0)).get? h'.objs.size = some (seqObj "list" its.toArray 0) := Heap.get?_push_size _ rfl
    have hz0 : s.heap.objs.size ≤ h'.objs.size := by
      rw [← hg, gath_size]
      exact Nat.le_succ _
    refine wpAny_bind (wpAny_holding (wpAny_call_entry slot_list_sort ⟨_, hoL, rfl⟩ entry_list_sort (list_sort_ord (lexI_swo fun v => k (backV v)) hoL len (fun h2 => ?_) fun out h1 h2 => ⟨_, rfl, ?_⟩) (args_list_sort _)))
    · refine tups_sortable (by omega) (fun v hm => ?_) fun o e => ?_
      · obtain ⟨⟨b, o, its2, n, e, ho, hc, hd, rv2⟩, ne⟩ := e3 v hm
        exact ⟨⟨b, o, its2, n, e, Heap.get?_push_of_some _ (hk b o ho), hc, hd, rv2⟩, ne⟩
      · have e' : some o = some (seqObj "list" its.toArray 0) := e.symm.trans hoL
        cases e'
        intro c
        exact absurd (Value.type.inj c) (by decide)
    · obtain ⟨c, hcc⟩ := sortedHeap_at (vs := its) (out := out.toArray) hoL
      have keep : ∀ b u, s.heap.get? b = some u → (sortedHeap (h'.push (seqObj "list" its.toArray 0)) h'.objs.size its out.toArray).get? b = some u := by
        intro b u e
        have e2 := hk b u e
        have lt := Heap.lt_size e2
        rw [sortedHeap_old (Nat.ne_of_lt lt) (by rw [size_push']; exact Nat.lt_succ_of_lt lt)]
        exact Heap.get?_push_of_some _ e2
      exact wpAny_pure ⟨_, rfl, fin rv hz keep hz0 hcc h1 h2⟩
end Gd

set_option Elab.async false
set_option linter.all false
set_option maxRecDepth 100000
set_option maxHeartbeats 4000000
/-! Tj: list(s) of a text; comprehensions over a range by one invariant. -/
namespace Gd
open PySem PySem.Spec PyProof.Rows L2
/-- the sgnV of a text, as texts -/
def sgnV (x : Str) : List V := x.cps.toList.map fun c => V.str ⟨#[c]⟩
theorem sgnV_len (x : Str) : (sgnV x).length = x.cps.size := by
  unfold sgnV
  rw [List.length_map, Array.length_toList]
theorem call_listStr {X : Cx} (hc : X.calm = true) : CallR X (.type "list") (fun xs H Q => ∃ x, xs = [.str x] ∧ x.cps.size ≤ 1000 ∧ ∀ p, H p = none → Q (.ref p) (upd H p (.lst (sgnV x)))) := by
  intro pins s σ H xs us Q I r h
  obtain ⟨x, rfl, few, q⟩ := h
  obtain ⟨u, rfl, t, rfl⟩ := vals1 r
  refine call_list_str (I.ok.hd hc) x t (fun h' tk acc c' hk e' hi => ?_) (Nat.le_of_lt (small1000 few))
  refine ⟨.ref s.heap.objs.size, upd H s.heap.objs.size (.lst (sgnV x)), I.laid (t' := tk) hk (Nat.le_refl _) (show ObjOk X.prog X.w _ _ _ (.lst (sgnV x)) from ⟨?_, acc.toList, c', ?_, ?_⟩), rfl, q _ (I.hok.fresh (Nat.le_refl _))⟩
  · rw [sgnV_len]
    exact Nat.le_of_lt (small1000 few)
  · refine vals_of_at (by rw [sgnV_len, Array.length_toList, hi.1]) fun j y w h1 h2 => ?_
    obtain ⟨c, tk', e1, rfl⟩ := hi.2 j w (by rw [← Array.getElem?_toList]; exact h2)
    unfold sgnV at h1
    rw [List.getElem?_map, Array.getElem?_toList, e1] at h1
    cases h1
    exact ⟨tk', rfl⟩
  · rw [Array.toArray_toList]
    exact e'
/-- list(..) of a list, a tuple or a text -/
structure rListA (K : PySem.W.Frag) (xs : List V) (H : Hp) (Q : VK) : Prop where
  h : (∃ p ys, xs = [.ref p] ∧ (SqL K H p ys ∨ SqT K H p ys) ∧ ∀ l, H l = none → Q (.ref l) (upd H l (.lst ys))) ∨ ∃ x, xs = [.str x] ∧ x.cps.size ≤ 1000 ∧ ∀ p, H p = none → Q (.ref p) (upd H p (.lst (sgnV x)))
theorem call_listA {X : Cx} (hc : X.calm = true) : CallR X (.type "list") (rListA X.K) := fun pins s σ H xs us Q I r h => CallR.or call_list_of (call_listStr hc) pins s σ H xs us Q I r h.h
/-- over a range, whatever stays -/
theorem lc_rngG {lo : Int} {n : Nat} {g : TG} {tt : TT} {te : TE} {vs : List Nat} {σ : L2.St} {H1 : Hp} {D : Addr} {Qd : Hp → Prop} (Ok : Hp → Prop) (Acc : Nat → List V → Prop) (h0 : Ok (upd H1 D (.lst []))) (z0 : Acc 0 [])
    (hs : ∀ i H, i < n → Nx Ok D Acc i H → g (.int (lo + i)) (wipe σ vs) H fun σ2 H2 => wipe σ2 vs = wipe σ vs ∧ tt σ2 H2 fun b H3 =>
      if b = true then te σ2 H3 fun y H4 => ∃ acc, H4 D = some (.lst acc) ∧ acc.length < sizeLine ∧ Nx Ok D Acc (i + 1) (upd H4 D (.lst (acc ++ [y]))) else Nx Ok D Acc (i + 1) H3)
    (hd : ∀ H acc, Ok H → H D = some (.lst acc) → Acc n acc → Qd H) :
    ∃ W : Nat → Nat → Hp → Prop, (∃ m, W 0 m (upd H1 D (.lst []))) ∧ ∀ i m H, W i m H →
      ((Itr lo n).stop i H ∧ Qd H) ∨ ((Itr lo n).go i H ∧ ∃ N : Hp → Prop, (∀ H', N H' → ∃ m', m' < m ∧ W (i + 1) m' H') ∧ ∀ v H', (Itr lo n).yld i H v H' → g v (wipe σ vs) H' fun σ2 H2 => wipe σ2 vs = wipe σ vs ∧ tt σ2 H2 fun b H3 =>
        if b = true then te σ2 H3 fun y H4 => ∃ acc, H4 D = some (.lst acc) ∧ acc.length < sizeLine ∧ N (upd H4 D (.lst (acc ++ [y]))) else N H3) :=
  lc_any (J := Itr lo n) (n := n) Ok Acc (fun i v _ => v = .int (lo + i)) h0 z0 (fun i H hi _ => hi) (fun H _ => Nat.le_refl _)
    (fun i H v H' hi nx ⟨e, f⟩ => by
      subst e
      exact ⟨nx, f⟩)
    (fun i v H hi nx e => by
      subst e
      exact hs i H hi nx) hd
end Gd

set_option Elab.async false
set_option linter.all false
set_option maxRecDepth 100000
set_option maxHeartbeats 4000000
namespace K7
open PySem PySem.Spec PyProof.Rows L2 Gd
/-! ### the text -/
def topS (i : Nat) : Stmt := PySem.Challenge.pw_setchooser_k07_nets_told.main.body.getD i (.Pass ⟨0, 0, 0, 0⟩)
def inS (i j : Nat) : Stmt := match topS i with
  | .ClassDef _ _ _ b _ _ _ _ _ _ _ => b.getD j (.Pass ⟨0, 0, 0, 0⟩)
  | _ => .Pass ⟨0, 0, 0, 0⟩
abbrev s__wall : Stmt := topS 0
abbrev s_is_integer : Stmt := topS 6
abbrev s_is_number : Stmt := topS 7
abbrev s_is_below : Stmt := topS 8
abbrev s_is_name : Stmt := topS 9
abbrev s_is_ascending : Stmt := topS 10
abbrev s_InvalidNumber_init : Stmt := inS 16 0
abbrev s_InvalidNumber_str : Stmt := inS 16 1
abbrev s_UnknownName_init : Stmt := inS 17 0
abbrev s_UnknownName_str : Stmt := inS 17 1
abbrev s_is_row : Stmt := topS 22
abbrev s_is_rows : Stmt := topS 23
abbrev s_is_tie : Stmt := topS 24
abbrev s_is_ties : Stmt := topS 25
abbrev s_Book_init : Stmt := inS 26 0
abbrev s_Book_size : Stmt := inS 26 1
abbrev s_Book_names : Stmt := inS 26 2
abbrev s_Book_sets : Stmt := inS 26 3
abbrev s_Book_getitem : Stmt := inS 26 4
abbrev s_Book_contains : Stmt := inS 26 5
abbrev s_Book_len : Stmt := inS 26 6
abbrev s_Book_eq : Stmt := inS 26 7
abbrev s_Book_str : Stmt := inS 26 8
abbrev s_Book_iter : Stmt := inS 26 9
abbrev s_Book_places : Stmt := inS 26 10
abbrev s_Book_with_tie : Stmt := inS 26 11
abbrev s_Book_without_tie : Stmt := inS 26 12
abbrev s_Book_only : Stmt := inS 26 13
abbrev s_Book_renamed : Stmt := inS 26 14
abbrev s_Book_turned : Stmt := inS 26 15
abbrev s_Book_add : Stmt := inS 26 16
abbrev s_Book_radd : Stmt := inS 26 17
abbrev s_is_names_of : Stmt := topS 27
abbrev s_check_book : Stmt := topS 28
abbrev s_is_size : Stmt := topS 32
abbrev s_is_unknowns : Stmt := topS 33
abbrev s_is_applied : Stmt := topS 34
abbrev s_is_applied_set : Stmt := topS 35
abbrev s_first_from : Stmt := topS 36
abbrev s_Net_init : Stmt := inS 37 0
abbrev s_Net_size : Stmt := inS 37 1
abbrev s_Net_ties : Stmt := inS 37 2
abbrev s_Net_names : Stmt := inS 37 3
abbrev s_Net_contains : Stmt := inS 37 4
abbrev s_Net_len : Stmt := inS 37 5
abbrev s_Net_eq : Stmt := inS 37 6
abbrev s_Net_str : Stmt := inS 37 7
abbrev s_Net_iter : Stmt := inS 37 8
abbrev s_Net_with_tie : Stmt := inS 37 9
abbrev s_Net_without_tie : Stmt := inS 37 10
abbrev s_Net_with_unknowns : Stmt := inS 37 11
abbrev s_Net_made_one : Stmt := inS 37 12
abbrev s_Net_mapped : Stmt := inS 37 13
abbrev s_Net_add : Stmt := inS 37 14
abbrev s_Net_radd : Stmt := inS 37 15
abbrev s_moved_ties : Stmt := topS 38
abbrev s_belongs : Stmt := topS 39
abbrev s_does_belong : Stmt := topS 40
abbrev s_check_net : Stmt := topS 41
abbrev s_sack : Stmt := topS 43
abbrev s_grab : Stmt := topS 44
abbrev s_one_of : Stmt := topS 45
abbrev s_shuffled : Stmt := topS 46
abbrev s_made_net : Stmt := topS 47
abbrev s_letter : Stmt := topS 48
abbrev s_many_names : Stmt := topS 49
abbrev s_spare : Stmt := topS 50
abbrev s_wide_net : Stmt := topS 51
abbrev s_is_net : Stmt := topS 52
abbrev s_with : Stmt := topS 53
abbrev s_near : Stmt := topS 54
abbrev s_all_right : Stmt := topS 55
abbrev s_belonging_right : Stmt := topS 56
abbrev s_cell_right : Stmt := topS 57
abbrev s_law : Stmt := topS 58
abbrev nm__wall : List Str := ["k"]
abbrev nm_is_integer : List Str := ["value"]
abbrev nm_is_number : List Str := ["value"]
abbrev nm_is_below : List Str := ["value", "limit"]
abbrev nm_is_name : List Str := ["value", "letter"]
abbrev nm_is_ascending : List Str := ["values", "one", "other"]
abbrev nm_InvalidNumber_init : List Str := ["self", "value"]
abbrev nm_InvalidNumber_str : List Str := ["self"]
abbrev nm_UnknownName_init : List Str := ["self", "name"]
abbrev nm_UnknownName_str : List Str := ["self"]
abbrev nm_is_row : List Str := ["size", "places", "value", "part"]
abbrev nm_is_rows : List Str := ["size", "places", "value", "row"]
abbrev nm_is_tie : List Str := ["size", "value"]
abbrev nm_is_ties : List Str := ["size", "value", "name", "tie"]
abbrev nm_Book_init : List Str := ["self", "size", "ties", "name"]
abbrev nm_Book_size : List Str := ["self"]
abbrev nm_Book_names : List Str := ["self"]
abbrev nm_Book_sets : List Str := ["self"]
abbrev nm_Book_getitem : List Str := ["self", "name"]
abbrev nm_Book_contains : List Str := ["self", "value"]
abbrev nm_Book_len : List Str := ["self"]
abbrev nm_Book_eq : List Str := ["self", "other"]
abbrev nm_Book_str : List Str := ["self"]
abbrev nm_Book_iter : List Str := ["self"]
abbrev nm_Book_places : List Str := ["self", "name"]
abbrev nm_Book_with_tie : List Str := ["self", "name", "places", "rows"]
abbrev nm_Book_without_tie : List Str := ["self", "name"]
abbrev nm_Book_only : List Str := ["self", "names", "name"]
abbrev nm_Book_renamed : List Str := ["self", "names"]
abbrev nm_Book_turned : List Str := ["self", "values"]
abbrev nm_Book_add : List Str := ["self", "other", "ties", "name", "tie"]
abbrev nm_Book_radd : List Str := ["self", "other"]
abbrev nm_is_names_of : List Str := ["book", "value", "name"]
abbrev nm_check_book : List Str := ["book"]
abbrev nm_is_size : List Str := ["value"]
abbrev nm_is_unknowns : List Str := ["size", "value", "part"]
abbrev nm_is_applied : List Str := ["size", "value"]
abbrev nm_is_applied_set : List Str := ["size", "value", "tie"]
abbrev nm_first_from : List Str := ["ties", "tie", "low", "high", "middle"]
abbrev nm_Net_init : List Str := ["self", "size", "ties"]
abbrev nm_Net_size : List Str := ["self"]
abbrev nm_Net_ties : List Str := ["self"]
abbrev nm_Net_names : List Str := ["self", "name", "unknowns"]
abbrev nm_Net_contains : List Str := ["self", "value", "index"]
abbrev nm_Net_len : List Str := ["self"]
abbrev nm_Net_eq : List Str := ["self", "other"]
abbrev nm_Net_str : List Str := ["self"]
abbrev nm_Net_iter : List Str := ["self"]
abbrev nm_Net_with_tie : List Str := ["self", "name", "unknowns"]
abbrev nm_Net_without_tie : List Str := ["self", "name", "unknowns"]
abbrev nm_Net_with_unknowns : List Str := ["self", "many"]
abbrev nm_Net_made_one : List Str := ["self", "one", "other"]
abbrev nm_Net_mapped : List Str := ["self", "unknowns", "size"]
abbrev nm_Net_add : List Str := ["self", "other", "size", "behind"]
abbrev nm_Net_radd : List Str := ["self", "other"]
abbrev nm_moved_ties : List Str := ["ties", "unknowns", "part", "name", "places"]
abbrev nm_belongs : List Str := ["book", "net"]
abbrev nm_does_belong : List Str := ["book", "net", "places", "name", "unknowns"]
abbrev nm_check_net : List Str := ["net"]
abbrev nm_sack : List Str := ["_law_script", "_law_at", "_law_cell", "_law_great", "_law_mixed"]
abbrev nm_grab : List Str := ["_law_sack_here", "_law_total", "_law_found", "_law_one", "_law_two"]
abbrev nm_one_of : List Str := ["_law_sack_here", "_law_items"]
abbrev nm_shuffled : List Str := ["_law_sack_here", "_law_items", "_law_waits", "_law_turn"]
abbrev nm_made_net : List Str := ["_law_net"]
abbrev nm_letter : List Str := ["_law_sack_here"]
abbrev nm_many_names : List Str := ["_law_sack_here", "_law_much", "_law_body", "_law_lot", "_law_found", "_law_spot", "_law_sign", "_law_at"]
abbrev nm_spare : List Str := ["_law_names", "_law_name"]
abbrev nm_wide_net : List Str := ["_law_sack_here", "_law_size", "_law_names", "_law_found", "_law_turn", "_law_at"]
abbrev nm_is_net : List Str := ["_law_made", "_law_plain"]
abbrev nm_with : List Str := ["_law_record", "_law_word", "_law_value", "_law_found"]
abbrev nm_near : List Str := ["_law_sack_here", "_law_plain", "_law_lot", "_law_at"]
abbrev nm_all_right : List Str := ["_law_made", "_law_plain", "_law_names", "_law_none", "_law_odd", "_law_one", "_law_value"]
abbrev nm_belonging_right : List Str := ["_law_sack_here", "_law_made", "_law_plain", "_law_found", "_law_due", "_law_name", "_law_sizes", "_law_one"]
abbrev nm_cell_right : List Str := ["_law_sack_here", "_law_plain", "_law_other", "_law_one", "_law_two", "_law_twin", "_law_turn", "_law_found", "_law_odd", "_law_value"]
abbrev nm_law : List Str := ["_law_script", "_law_at"]
theorem sc__wall : FnScope nm__wall ["k"] (defScope s__wall) := ⟨rfl, rfl, rfl, by decide +kernel, rfl, by decide +kernel, by decide +kernel⟩
theorem sc_is_integer : FnScope nm_is_integer ["value"] (defScope s_is_integer) := ⟨rfl, rfl, rfl, by decide +kernel, rfl, by decide +kernel, by decide +kernel⟩
theorem sc_is_number : FnScope nm_is_number ["value"] (defScope s_is_number) := ⟨rfl, rfl, rfl, by decide +kernel, rfl, by decide +kernel, by decide +kernel⟩
theorem sc_is_below : FnScope nm_is_below ["value", "limit"] (defScope s_is_below) := ⟨rfl, rfl, rfl, by decide +kernel, rfl, by decide +kernel, by decide +kernel⟩
theorem sc_is_name : FnScope nm_is_name ["value"] (defScope s_is_name) := ⟨rfl, rfl, rfl, by decide +kernel, rfl, by decide +kernel, by decide +kernel⟩
theorem sc_is_ascending : FnScope nm_is_ascending ["values"] (defScope s_is_ascending) := ⟨rfl, rfl, rfl, by decide +kernel, rfl, by decide +kernel, by decide +kernel⟩
theorem sc_InvalidNumber_init : FnScope nm_InvalidNumber_init ["self", "value"] (defScope s_InvalidNumber_init) := ⟨rfl, rfl, rfl, by decide +kernel, rfl, by decide +kernel, by decide +kernel⟩
theorem sc_InvalidNumber_str : FnScope nm_InvalidNumber_str ["self"] (defScope s_InvalidNumber_str) := ⟨rfl, rfl, rfl, by decide +kernel, rfl, by decide +kernel, by decide +kernel⟩
theorem sc_UnknownName_init : FnScope nm_UnknownName_init ["self", "name"] (defScope s_UnknownName_init) := ⟨rfl, rfl, rfl, by decide +kernel, rfl, by decide +kernel, by decide +kernel⟩
theorem sc_UnknownName_str : FnScope nm_UnknownName_str ["self"] (defScope s_UnknownName_str) := ⟨rfl, rfl, rfl, by decide +kernel, rfl, by decide +kernel, by decide +kernel⟩
theorem sc_is_row : FnScope nm_is_row ["size", "places", "value"] (defScope s_is_row) := ⟨rfl, rfl, rfl, by decide +kernel, rfl, by decide +kernel, by decide +kernel⟩
theorem sc_is_rows : FnScope nm_is_rows ["size", "places", "value"] (defScope s_is_rows) := ⟨rfl, rfl, rfl, by decide +kernel, rfl, by decide +kernel, by decide +kernel⟩
theorem sc_is_tie : FnScope nm_is_tie ["size", "value"] (defScope s_is_tie) := ⟨rfl, rfl, rfl, by decide +kernel, rfl, by decide +kernel, by decide +kernel⟩
theorem sc_is_ties : FnScope nm_is_ties ["size", "value"] (defScope s_is_ties) := ⟨rfl, rfl, rfl, by decide +kernel, rfl, by decide +kernel, by decide +kernel⟩
theorem sc_Book_init : FnScope nm_Book_init ["self", "size", "ties"] (defScope s_Book_init) := ⟨rfl, rfl, rfl, by decide +kernel, rfl, by decide +kernel, by decide +kernel⟩
theorem sc_Book_size : FnScope nm_Book_size ["self"] (defScope s_Book_size) := ⟨rfl, rfl, rfl, by decide +kernel, rfl, by decide +kernel, by decide +kernel⟩
theorem sc_Book_names : FnScope nm_Book_names ["self"] (defScope s_Book_names) := ⟨rfl, rfl, rfl, by decide +kernel, rfl, by decide +kernel, by decide +kernel⟩
theorem sc_Book_sets : FnScope nm_Book_sets ["self"] (defScope s_Book_sets) := ⟨rfl, rfl, rfl, by decide +kernel, rfl, by decide +kernel, by decide +kernel⟩
theorem sc_Book_getitem : FnScope nm_Book_getitem ["self", "name"] (defScope s_Book_getitem) := ⟨rfl, rfl, rfl, by decide +kernel, rfl, by decide +kernel, by decide +kernel⟩
theorem sc_Book_contains : FnScope nm_Book_contains ["self", "value"] (defScope s_Book_contains) := ⟨rfl, rfl, rfl, by decide +kernel, rfl, by decide +kernel, by decide +kernel⟩
theorem sc_Book_len : FnScope nm_Book_len ["self"] (defScope s_Book_len) := ⟨rfl, rfl, rfl, by decide +kernel, rfl, by decide +kernel, by decide +kernel⟩
theorem sc_Book_eq : FnScope nm_Book_eq ["self", "other"] (defScope s_Book_eq) := ⟨rfl, rfl, rfl, by decide +kernel, rfl, by decide +kernel, by decide +kernel⟩
theorem sc_Book_str : FnScope nm_Book_str ["self"] (defScope s_Book_str) := ⟨rfl, rfl, rfl, by decide +kernel, rfl, by decide +kernel, by decide +kernel⟩
theorem sc_Book_iter : FnScope nm_Book_iter ["self"] (defScope s_Book_iter) := ⟨rfl, rfl, rfl, by decide +kernel, rfl, by decide +kernel, by decide +kernel⟩
theorem sc_Book_places : FnScope nm_Book_places ["self", "name"] (defScope s_Book_places) := ⟨rfl, rfl, rfl, by decide +kernel, rfl, by decide +kernel, by decide +kernel⟩
theorem sc_Book_with_tie : FnScope nm_Book_with_tie ["self", "name", "places", "rows"] (defScope s_Book_with_tie) := ⟨rfl, rfl, rfl, by decide +kernel, rfl, by decide +kernel, by decide +kernel⟩
theorem sc_Book_without_tie : FnScope nm_Book_without_tie ["self", "name"] (defScope s_Book_without_tie) := ⟨rfl, rfl, rfl, by decide +kernel, rfl, by decide +kernel, by decide +kernel⟩
theorem sc_Book_only : FnScope nm_Book_only ["self", "names"] (defScope s_Book_only) := ⟨rfl, rfl, rfl, by decide +kernel, rfl, by decide +kernel, by decide +kernel⟩
theorem sc_Book_renamed : FnScope nm_Book_renamed ["self", "names"] (defScope s_Book_renamed) := ⟨rfl, rfl, rfl, by decide +kernel, rfl, by decide +kernel, by decide +kernel⟩
theorem sc_Book_turned : FnScope nm_Book_turned ["self", "values"] (defScope s_Book_turned) := ⟨rfl, rfl, rfl, by decide +kernel, rfl, by decide +kernel, by decide +kernel⟩
theorem sc_Book_add : FnScope nm_Book_add ["self", "other"] (defScope s_Book_add) := ⟨rfl, rfl, rfl, by decide +kernel, rfl, by decide +kernel, by decide +kernel⟩
theorem sc_Book_radd : FnScope nm_Book_radd ["self", "other"] (defScope s_Book_radd) := ⟨rfl, rfl, rfl, by decide +kernel, rfl, by decide +kernel, by decide +kernel⟩
theorem sc_is_names_of : FnScope nm_is_names_of ["book", "value"] (defScope s_is_names_of) := ⟨rfl, rfl, rfl, by decide +kernel, rfl, by decide +kernel, by decide +kernel⟩
theorem sc_check_book : FnScope nm_check_book ["book"] (defScope s_check_book) := ⟨rfl, rfl, rfl, by decide +kernel, rfl, by decide +kernel, by decide +kernel⟩
theorem sc_is_size : FnScope nm_is_size ["value"] (defScope s_is_size) := ⟨rfl, rfl, rfl, by decide +kernel, rfl, by decide +kernel, by decide +kernel⟩
theorem sc_is_unknowns : FnScope nm_is_unknowns ["size", "value"] (defScope s_is_unknowns) := ⟨rfl, rfl, rfl, by decide +kernel, rfl, by decide +kernel, by decide +kernel⟩
theorem sc_is_applied : FnScope nm_is_applied ["size", "value"] (defScope s_is_applied) := ⟨rfl, rfl, rfl, by decide +kernel, rfl, by decide +kernel, by decide +kernel⟩
theorem sc_is_applied_set : FnScope nm_is_applied_set ["size", "value"] (defScope s_is_applied_set) := ⟨rfl, rfl, rfl, by decide +kernel, rfl, by decide +kernel, by decide +kernel⟩
theorem sc_first_from : FnScope nm_first_from ["ties", "tie"] (defScope s_first_from) := ⟨rfl, rfl, rfl, by decide +kernel, rfl, by decide +kernel, by decide +kernel⟩
theorem sc_Net_init : FnScope nm_Net_init ["self", "size", "ties"] (defScope s_Net_init) := ⟨rfl, rfl, rfl, by decide +kernel, rfl, by decide +kernel, by decide +kernel⟩
theorem sc_Net_size : FnScope nm_Net_size ["self"] (defScope s_Net_size) := ⟨rfl, rfl, rfl, by decide +kernel, rfl, by decide +kernel, by decide +kernel⟩
theorem sc_Net_ties : FnScope nm_Net_ties ["self"] (defScope s_Net_ties) := ⟨rfl, rfl, rfl, by decide +kernel, rfl, by decide +kernel, by decide +kernel⟩
theorem sc_Net_names : FnScope nm_Net_names ["self"] (defScope s_Net_names) := ⟨rfl, rfl, rfl, by decide +kernel, rfl, by decide +kernel, by decide +kernel⟩
theorem sc_Net_contains : FnScope nm_Net_contains ["self", "value"] (defScope s_Net_contains) := ⟨rfl, rfl, rfl, by decide +kernel, rfl, by decide +kernel, by decide +kernel⟩
theorem sc_Net_len : FnScope nm_Net_len ["self"] (defScope s_Net_len) := ⟨rfl, rfl, rfl, by decide +kernel, rfl, by decide +kernel, by decide +kernel⟩
theorem sc_Net_eq : FnScope nm_Net_eq ["self", "other"] (defScope s_Net_eq) := ⟨rfl, rfl, rfl, by decide +kernel, rfl, by decide +kernel, by decide +kernel⟩
theorem sc_Net_str : FnScope nm_Net_str ["self"] (defScope s_Net_str) := ⟨rfl, rfl, rfl, by decide +kernel, rfl, by decide +kernel, by decide +kernel⟩
theorem sc_Net_iter : FnScope nm_Net_iter ["self"] (defScope s_Net_iter) := ⟨rfl, rfl, rfl, by decide +kernel, rfl, by decide +kernel, by decide +kernel⟩
theorem sc_Net_with_tie : FnScope nm_Net_with_tie ["self", "name", "unknowns"] (defScope s_Net_with_tie) := ⟨rfl, rfl, rfl, by decide +kernel, rfl, by decide +kernel, by decide +kernel⟩
theorem sc_Net_without_tie : FnScope nm_Net_without_tie ["self", "name", "unknowns"] (defScope s_Net_without_tie) := ⟨rfl, rfl, rfl, by decide +kernel, rfl, by decide +kernel, by decide +kernel⟩
theorem sc_Net_with_unknowns : FnScope nm_Net_with_unknowns ["self", "many"] (defScope s_Net_with_unknowns) := ⟨rfl, rfl, rfl, by decide +kernel, rfl, by decide +kernel, by decide +kernel⟩
theorem sc_Net_made_one : FnScope nm_Net_made_one ["self", "one", "other"] (defScope s_Net_made_one) := ⟨rfl, rfl, rfl, by decide +kernel, rfl, by decide +kernel, by decide +kernel⟩
theorem sc_Net_mapped : FnScope nm_Net_mapped ["self", "unknowns", "size"] (defScope s_Net_mapped) := ⟨rfl, rfl, rfl, by decide +kernel, rfl, by decide +kernel, by decide +kernel⟩
theorem sc_Net_add : FnScope nm_Net_add ["self", "other"] (defScope s_Net_add) := ⟨rfl, rfl, rfl, by decide +kernel, rfl, by decide +kernel, by decide +kernel⟩
theorem sc_Net_radd : FnScope nm_Net_radd ["self", "other"] (defScope s_Net_radd) := ⟨rfl, rfl, rfl, by decide +kernel, rfl, by decide +kernel, by decide +kernel⟩
theorem sc_moved_ties : FnScope nm_moved_ties ["ties", "unknowns"] (defScope s_moved_ties) := ⟨rfl, rfl, rfl, by decide +kernel, rfl, by decide +kernel, by decide +kernel⟩
theorem sc_belongs : FnScope nm_belongs ["book", "net"] (defScope s_belongs) := ⟨rfl, rfl, rfl, by decide +kernel, rfl, by decide +kernel, by decide +kernel⟩
theorem sc_does_belong : FnScope nm_does_belong ["book", "net"] (defScope s_does_belong) := ⟨rfl, rfl, rfl, by decide +kernel, rfl, by decide +kernel, by decide +kernel⟩
theorem sc_check_net : FnScope nm_check_net ["net"] (defScope s_check_net) := ⟨rfl, rfl, rfl, by decide +kernel, rfl, by decide +kernel, by decide +kernel⟩
theorem sc_sack : FnScope nm_sack ["_law_script", "_law_at"] (defScope s_sack) := ⟨rfl, rfl, rfl, by decide +kernel, rfl, by decide +kernel, by decide +kernel⟩
theorem sc_grab : FnScope nm_grab ["_law_sack_here", "_law_total"] (defScope s_grab) := ⟨rfl, rfl, rfl, by decide +kernel, rfl, by decide +kernel, by decide +kernel⟩
theorem sc_one_of : FnScope nm_one_of ["_law_sack_here", "_law_items"] (defScope s_one_of) := ⟨rfl, rfl, rfl, by decide +kernel, rfl, by decide +kernel, by decide +kernel⟩
theorem sc_shuffled : FnScope nm_shuffled ["_law_sack_here", "_law_items"] (defScope s_shuffled) := ⟨rfl, rfl, rfl, by decide +kernel, rfl, by decide +kernel, by decide +kernel⟩
theorem sc_made_net : FnScope nm_made_net ["_law_net"] (defScope s_made_net) := ⟨rfl, rfl, rfl, by decide +kernel, rfl, by decide +kernel, by decide +kernel⟩
theorem sc_letter : FnScope nm_letter ["_law_sack_here"] (defScope s_letter) := ⟨rfl, rfl, rfl, by decide +kernel, rfl, by decide +kernel, by decide +kernel⟩
theorem sc_many_names : FnScope nm_many_names ["_law_sack_here", "_law_much"] (defScope s_many_names) := ⟨rfl, rfl, rfl, by decide +kernel, rfl, by decide +kernel, by decide +kernel⟩
theorem sc_spare : FnScope nm_spare ["_law_names"] (defScope s_spare) := ⟨rfl, rfl, rfl, by decide +kernel, rfl, by decide +kernel, by decide +kernel⟩
theorem sc_wide_net : FnScope nm_wide_net ["_law_sack_here"] (defScope s_wide_net) := ⟨rfl, rfl, rfl, by decide +kernel, rfl, by decide +kernel, by decide +kernel⟩
theorem sc_is_net : FnScope nm_is_net ["_law_made", "_law_plain"] (defScope s_is_net) := ⟨rfl, rfl, rfl, by decide +kernel, rfl, by decide +kernel, by decide +kernel⟩
theorem sc_with : FnScope nm_with ["_law_record", "_law_word", "_law_value"] (defScope s_with) := ⟨rfl, rfl, rfl, by decide +kernel, rfl, by decide +kernel, by decide +kernel⟩
theorem sc_near : FnScope nm_near ["_law_sack_here", "_law_plain"] (defScope s_near) := ⟨rfl, rfl, rfl, by decide +kernel, rfl, by decide +kernel, by decide +kernel⟩
theorem sc_all_right : FnScope nm_all_right ["_law_made", "_law_plain"] (defScope s_all_right) := ⟨rfl, rfl, rfl, by decide +kernel, rfl, by decide +kernel, by decide +kernel⟩
theorem sc_belonging_right : FnScope nm_belonging_right ["_law_sack_here", "_law_made", "_law_plain"] (defScope s_belonging_right) := ⟨rfl, rfl, rfl, by decide +kernel, rfl, by decide +kernel, by decide +kernel⟩
theorem sc_cell_right : FnScope nm_cell_right ["_law_sack_here"] (defScope s_cell_right) := ⟨rfl, rfl, rfl, by decide +kernel, rfl, by decide +kernel, by decide +kernel⟩
theorem sc_law : FnScope nm_law ["_law_script"] (defScope s_law) := ⟨rfl, rfl, rfl, by decide +kernel, rfl, by decide +kernel, by decide +kernel⟩
/-! ### what the module has -/
structure Blt (mg : Str → Option Value) : Prop where
  isinstance_ : mg "isinstance" = none
  int_ : mg "int" = none
  bool_ : mg "bool" = none
  str_ : mg "str" = none
  all_ : mg "all" = none
  len_ : mg "len" = none
  zip_ : mg "zip" = none
  repr_ : mg "repr" = none
  tuple_ : mg "tuple" = none
  dict_ : mg "dict" = none
  sorted_ : mg "sorted" = none
  property_ : mg "property" = none
  iter_ : mg "iter" = none
  set_ : mg "set" = none
  list_ : mg "list" = none
  range_ : mg "range" = none
  max_ : mg "max" = none
  abs_ : mg "abs" = none
  min_ : mg "min" = none
/-- a def of the module that keeps its promise -/
structure Has (P : Program) (w : World) (K : PySem.W.Frag) (mg : Str → Option Value) (base : Heap) (k : Nat) (x : Str) (ps : List Str) (sp : Sp) : Prop where
  ex : ∃ (f : Addr) (fd : FuncData), FnOk P w K mg base CX0 k f fd ps sp ∧ mg x = some (.ref f) ∧ PySem.W.keepIn K (.ref f) = true ∧ Binds K fd ps []
end K7

set_option Elab.async false
set_option linter.all false
set_option maxRecDepth 100000
set_option maxHeartbeats 8000000
namespace K7
open PySem PySem.Spec PyProof.Rows L2 Gd
def letters : Str := "abcdefghijklmnopqrstuvwxyz"
/-! ### chance -/
/-! ### the law's store of chance -/
def Sack (H : Hp) (k : Addr) : Prop := ∃ a b c : Int, H k = some (.lst [.int a, .int b, .int c]) ∧ 0 ≤ a ∧ a.natAbs < 2 ^ 3000
/-- all but the store is as it was -/
structure But (k : Addr) (H G : Hp) : Prop where
  stay : ∀ b x, b ≠ k → H b = some x → G b = some x
  sack : Sack G k
theorem But.trans {k : Addr} {H G F : Hp} (a : But k H G) (b : But k G F) : But k H F := ⟨fun c x n e => b.stay c x n (a.stay c x n e), b.sack⟩
theorem But.same {k : Addr} {H G : Hp} (h : Sack H k) (s : Same H G) : But k H G := by
  obtain ⟨a, b, c, e, r⟩ := h
  exact ⟨fun d x _ z => s d x z, a, b, c, s _ _ e, r⟩
theorem But.up {k p : Addr} {H G : Hp} {o : HO} (a : But k H G) (n : G p = none) : But k H (upd G p o) := a.trans (But.same a.sack (Same.newG n))
theorem But.free {k p : Addr} {H G : Hp} (a : But k H G) (h : Sack H k) (n : G p = none) : H p = none := by
  cases q : H p with
  | none => rfl
  | some x =>
    by_cases e : p = k
    · obtain ⟨_, _, _, z, _⟩ := a.sack
      rw [← e, n] at z
      cases z
    · rw [a.stay p x e q] at n
      cases n
theorem fm_pos {x m : Int} (h : 0 < m) : 0 ≤ x.fmod m ∧ x.fmod m < m := by
  rw [Int.fmod_eq_emod_of_nonneg x (Int.le_of_lt h)]
  exact ⟨Int.emod_nonneg x (by omega), Int.emod_lt_of_pos x h⟩
section
variable {P : Program} {w : World} {K : PySem.W.Frag} {mg : Str → Option Value} {base : Heap}
def spGrab : Sp := fun vs H Q _ => ∃ (k : Addr) (m : Int), vs = [.ref k, .int m] ∧ Sack H k ∧ 0 < m ∧ m < 2 ^ 80 ∧ ∀ G n, But k H G → 0 ≤ n → n < m → Q (.int n) G
theorem ok_grab {f : Addr} {fd : FuncData} (F : Fun K "_law_grab" "_law_grab" s_grab f fd) (B : Blt mg) : FnOk P w K mg base CX0 1 f fd ["_law_sack_here", "_law_total"] spGrab := by
  refine F.ok sc_grab (fun vs H Q E h => ?_) (fun cdv A outer s H vs Q E hr h => ?_)
  · obtain ⟨k, m, rfl, _⟩ := h
    rfl
  obtain ⟨k, m, rfl, hk, m0, m1, q⟩ := h
  refine ⟨_, (pss_cons (ps_if (pt_cmpR op_gt (pe_ix ix_list (pv 0) pe_int (fun _ _ => rfl)) pe_int (nomark _)) (pss_cons (ps_set (i := 2) sc_grab.nd rfl (.inl rfl) (pe_op op_modN (pe_callTy call_int1 (by rfl) B.int_ (by decide +kernel) (pa_cons (pe_ix ix_list (pv 0) pe_int (fun _ _ => rfl)) pa_nil)) (pv 1)))
  (pss_cons (ps_asg (pe_op op_fdivW (pe_ix ix_list (pv 0) pe_int (fun _ _ => rfl)) (pv 1)) (pg_sub (pv 0) pe_int set_list))
  (pss_one (ps_ret (pv 2))))) pss_nil)
  (pss_cons (ps_asg (pe_op op_add (pe_ix ix_list (pv 0) pe_int (fun _ _ => rfl)) pe_int) (pg_sub (pv 0) pe_int set_list))
  (pss_cons (ps_set (i := 3) sc_grab.nd rfl (.inl rfl) (pe_op op_modN (pe_callTy call_int1 (by rfl) B.int_ (by decide +kernel) (pa_cons (pe_op op_add (pe_ix ix_list (pv 0) pe_int (fun _ _ => rfl)) (pe_op op_mul pe_int (pe_ix ix_list (pv 0) pe_int (fun _ _ => rfl)))) pa_nil)) pe_int))
  (pss_cons (ps_set (i := 4) sc_grab.nd rfl (.inl rfl) (pe_op op_add (pe_op op_mul (pe_op op_modN (pe_callTy call_int1 (by rfl) B.int_ (by decide +kernel) (pa_cons (pe_op op_mul (pv 3) (pv 3)) pa_nil)) pe_int) (pv 3)) (pe_op op_mul pe_int (pe_ix ix_list (pv 0) pe_int (fun _ _ => rfl)))))
  (pss_one (ps_ret (pe_op op_modN (pe_callTy call_int1 (by rfl) B.int_ (by decide +kernel) (pa_cons (pe_op op_fdivW (pe_op op_modN (pe_callTy call_int1 (by rfl) B.int_ (by decide +kernel) (pa_cons (pv 4) pa_nil)) pe_int) pe_int) pa_nil)) (pv 1)))))))), ?_⟩
  obtain ⟨a, b, c, hH, a0, a1⟩ := hk
  have hS : SqL K H k [.int a, .int b, .int c] := .inl (.inl hH)
  have mne : m ≠ 0 := by omega
  have mabs : m.natAbs < 2 ^ 80 := by omega
  refine ⟨.ref k, rfl, k, _, 0, .int a, rfl, rfl, hS, atI_nat (j := 0) rfl, a, 0, rfl, rfl, _, rfl, ite2 (fun z => ?_) (fun _ => ?_)⟩
  · refine ⟨.ref k, rfl, k, _, 0, .int a, rfl, rfl, hS, atI_nat (j := 0) rfl, .inl ⟨a, rfl, .int m, rfl, a, m, rfl, rfl, mne, ?_⟩⟩
    refine ⟨.ref k, rfl, k, _, 0, .int a, rfl, rfl, hS, atI_nat (j := 0) rfl, .int m, rfl, a, m, rfl, rfl, wide_div m0 mabs (by decide) (by decide), ?_⟩
    refine ⟨.ref k, rfl, k, _, 0, 0, rfl, rfl, hH, rfl, .int (a.fmod m), rfl, ?_⟩
    refine q _ _ ⟨fun d x n e => by rw [upd_ne n]; exact e, a / m, b, c, upd_same, ?_, ?_⟩ (fm_pos m0).1 (fm_pos m0).2
    · exact Int.ediv_nonneg a0 (Int.le_of_lt m0)
    · have h1 : a / m ≤ a := Int.ediv_le_self m a0
      have h2 : 0 ≤ a / m := Int.ediv_nonneg a0 (Int.le_of_lt m0)
      omega
  · refine ⟨.ref k, rfl, k, _, 2, .int c, rfl, rfl, hS, atI_nat (j := 2) rfl, c, 1, rfl, rfl, .ref k, rfl, k, _, 2, 2, rfl, rfl, hH, rfl, ?_⟩
    have hH2 : (upd H k (.lst [.int a, .int b, .int (c + 1)])) k = some (.lst [.int a, .int b, .int (c + 1)]) := upd_same
    have hS2 : SqL K (upd H k (.lst [.int a, .int b, .int (c + 1)])) k [.int a, .int b, .int (c + 1)] := .inl (.inl hH2)
    refine ⟨.ref k, rfl, k, _, 1, .int b, rfl, rfl, hS2, atI_nat (j := 1) rfl, .ref k, rfl, k, _, 2, .int (c + 1), rfl, rfl, hS2, atI_nat (j := 2) rfl, 1000427, c + 1, rfl, rfl, .inl ⟨by decide, by decide⟩, b, _, rfl, rfl, .inl ⟨_, rfl, _, _, rfl, rfl, (show (2305843009213693951 : Int) ≠ 0 by decide), ?_⟩⟩
    have one := fm_pos (x := b + 1000427 * (c + 1)) (m := 2305843009213693951) (by decide)
    have lo : -(2 ^ 64) < (b + 1000427 * (c + 1)).fmod 2305843009213693951 := by omega
    have hi : (b + 1000427 * (c + 1)).fmod 2305843009213693951 < 2 ^ 64 := by omega
    refine ⟨_, rfl, _, rfl, _, _, rfl, rfl, .inl ⟨lo, hi⟩, .inl ⟨_, rfl, _, _, rfl, rfl, (show (2305843009213693921 : Int) ≠ 0 by decide), _, rfl, _, _, rfl, rfl, .inr ⟨lo, hi⟩, .ref k, rfl, k, _, 2, .int (c + 1), rfl, rfl, hS2, atI_nat (j := 2) rfl, 9103, c + 1, rfl, rfl, .inl ⟨by decide, by decide⟩, _, _, rfl, rfl, ?_⟩⟩
    refine ⟨_, rfl, .inl ⟨_, rfl, _, _, rfl, rfl, (show (2305843009213693907 : Int) ≠ 0 by decide), _, _, rfl, rfl, wide_div (b := 15) (by decide) (by decide) (by decide) (by decide), .inl ⟨_, rfl, .int m, rfl, _, m, rfl, rfl, mne, ?_⟩⟩⟩
    exact q _ _ ⟨fun d x n e => by rw [upd_ne n]; exact e, a, b, c + 1, upd_same, a0, a1⟩ (fm_pos m0).1 (fm_pos m0).2
def spOne : Sp := fun vs H Q _ => ∃ (k l : Addr) (xs : List V), vs = [.ref k, .ref l] ∧ Sack H k ∧ l ≠ k ∧ H l = some (.lst xs) ∧ xs ≠ [] ∧ xs.length ≤ 1000 ∧ ∀ G x, But k H G → x ∈ xs → Q x G
theorem ok_one_of {f : Addr} {fd : FuncData} (F : Fun K "_law_one_of" "_law_one_of" s_one_of f fd) (B : Blt mg) (C : Has P w K mg base 1 "_law_grab" ["_law_sack_here", "_law_total"] spGrab) : FnOk P w K mg base CX0 2 f fd ["_law_sack_here", "_law_items"] spOne := by
  obtain ⟨f1, fd1, G_grab, g_grab, k_grab, b_grab⟩ := C.ex
  refine F.ok sc_one_of (fun vs H Q E h => ?_) (fun cdv A outer s H vs Q E hr h => ?_)
  · obtain ⟨k, l, xs, rfl, _⟩ := h
    rfl
  obtain ⟨k, l, xs, rfl, hk, ne, hl, nn, few, q⟩ := h
  refine ⟨_, (pss_one (ps_ret (pe_ix ix_list (pv 1) (pe_call G_grab (hr.mono (by decide)) (by rfl) g_grab k_grab b_grab .nil pass0 (pa_cons (pv 0) (pa_cons (pe_callB call_len_seq (by rfl) B.len_ (by decide +kernel) (pa_cons (pv 1) pa_nil)) pa_nil))) (fun _ _ => rfl)))), ?_⟩
  have hp : 0 < xs.length := by
    rcases xs with _ | ⟨x, r⟩
    · exact absurd rfl nn
    · simp
  refine ⟨.ref l, rfl, .ref k, rfl, .ref l, rfl, l, xs, rfl, .inl (.inl (.inl hl)), k, _, rfl, hk, by omega, by omega, fun G n bt n0 n1 => ?_⟩
  obtain ⟨j, rfl⟩ := Int.eq_ofNat_of_zero_le n0
  have hj : j < xs.length := by omega
  exact ⟨l, xs, _, xs[j], rfl, rfl, .inl (.inl (bt.stay _ _ ne hl)), atI_nat (List.getElem?_eq_getElem hj), q G _ bt (List.getElem_mem hj)⟩
def spLetter : Sp := fun vs H Q _ => ∃ (k : Addr), vs = [.ref k] ∧ Sack H k ∧ ∀ G c, But k H G → c ∈ letters.cps.toList → Q (.str ⟨#[c]⟩) G
theorem ok_letter {f : Addr} {fd : FuncData} (F : Fun K "_law_letter" "_law_letter" s_letter f fd) (B : Blt mg) (C : Has P w K mg base 1 "_law_grab" ["_law_sack_here", "_law_total"] spGrab) : FnOk P w K mg base CX0 2 f fd ["_law_sack_here"] spLetter := by
  obtain ⟨f1, fd1, G_grab, g_grab, k_grab, b_grab⟩ := C.ex
  refine F.ok sc_letter (fun vs H Q E h => ?_) (fun cdv A outer s H vs Q E hr h => ?_)
  · obtain ⟨k, rfl, _⟩ := h
    rfl
  obtain ⟨k, rfl, hk, q⟩ := h
  refine ⟨_, (pss_one (ps_ret (pe_ix ix_str pe_str (pe_call G_grab (hr.mono (by decide)) (by rfl) g_grab k_grab b_grab .nil pass0 (pa_cons (pv 0) (pa_cons pe_int pa_nil))) (fun _ _ => rfl)))), ?_⟩
  refine ⟨.ref k, rfl, k, 26, rfl, hk, by decide, by decide, fun G n bt n0 n1 => ?_⟩
  obtain ⟨j, rfl⟩ := Int.eq_ofNat_of_zero_le n0
  have hl : letters.cps.toList.length = 26 := by decide +kernel
  have hj : j < letters.cps.toList.length := by rw [hl]; omega
  exact ⟨letters, _, letters.cps.toList[j], rfl, rfl, by decide +kernel, atI_nat (List.getElem?_eq_getElem hj), q G _ bt (List.getElem_mem hj)⟩
end
theorem pc47 : CPowG 10 47 := ⟨by decide, by decide +kernel⟩
theorem pc13 : CPowG ((10 : Int) ^ (47 : Int).toNat) 13 := ⟨by decide, by decide +kernel⟩
theorem pc18 : CPowG 10 18 := ⟨by decide, by decide +kernel⟩
theorem pc30 : CPowG 10 30 := ⟨by decide, by decide +kernel⟩
theorem big_pos : 0 < ((10 : Int) ^ (47 : Int).toNat) ^ (13 : Int).toNat := by decide +kernel
theorem big_lt : (((10 : Int) ^ (47 : Int).toNat) ^ (13 : Int).toNat).natAbs ≤ 2 ^ 3000 := by decide +kernel
theorem pw18 : 0 ≤ (10 : Int) ^ (18 : Int).toNat := by decide +kernel
theorem fm_lt {x m : Int} {N : Nat} (h : 0 < m) (hN : m.natAbs ≤ N) : (x.fmod m).natAbs < N := by
  have := fm_pos (x := x) h
  omega
theorem cut0 {g c : Int} {N : Nat} (g0 : 0 ≤ g) (hg : g.natAbs < N) (c0 : 0 ≤ c) : 0 ≤ (if g - c > 0 then g - c else 0) ∧ (if g - c > 0 then g - c else 0).natAbs < N := by
  split <;> omega
section
variable {P : Program} {w : World} {K : PySem.W.Frag} {mg : Str → Option Value} {base : Heap}
def spSack (K : PySem.W.Frag) : Sp := fun vs H Q _ => ∃ (a : Addr) (ns : List Int) (j : Nat), vs = [.ref a, .int (j : Int)] ∧ SqL K H a (ns.map V.int) ∧ ∀ p x y z, H p = none → 0 ≤ x → x.natAbs < 2 ^ 3000 → Q (.ref p) (upd H p (.lst [.int x, .int y, .int z]))
theorem ok_sack {f : Addr} {fd : FuncData} (F : Fun K "_law_sack" "_law_sack" s_sack f fd) (B : Blt mg) : FnOk P w K mg base CX0 1 f fd ["_law_script", "_law_at"] (spSack K) := by
  refine F.ok sc_sack (fun vs H Q E h => ?_) (fun cdv A outer s H vs Q E hr h => ?_)
  · obtain ⟨a, ns, j, rfl, _⟩ := h
    rfl
  obtain ⟨a, ns, j, rfl, hS, q⟩ := h
  refine ⟨_, (pss_cons (ps_set (i := 2) sc_sack.nd rfl (.inl rfl) (pe_ifExp (pt_cmpR op_lt (pv 1) (pe_callB call_len_seq (by rfl) B.len_ (by decide +kernel) (pa_cons (pv 0) pa_nil)) (nomark _)) (pe_ix ix_list (pv 0) (pv 1) (fun _ _ => rfl)) (pe_op op_add (pe_op op_mul pe_int (pv 1)) pe_int)))
  (pss_cons (ps_set (i := 3) sc_sack.nd rfl (.inl rfl) (pe_op op_modN (pe_callTy call_int1 (by rfl) B.int_ (by decide +kernel) (pa_cons (pe_callB call_abs (by rfl) B.abs_ (by decide +kernel) (pa_cons (pv 2) pa_nil)) pa_nil)) (pe_op op_powG (pe_op op_powG pe_int pe_int) pe_int)))
  (pss_cons (ps_set (i := 4) sc_sack.nd rfl (.inl rfl) (pe_op op_add (pe_op op_add (pe_op op_add (pe_op op_mul (pe_op op_modN (pe_callTy call_int1 (by rfl) B.int_ (by decide +kernel) (pa_cons (pv 3) pa_nil)) pe_int) pe_int) (pe_op op_mul pe_int (pv 1))) (pe_op op_mul pe_int (pe_callTy call_int1 (by rfl) B.int_ (by decide +kernel) (pa_cons (pe_cmpR op_lt (pv 2) pe_int (nomark _)) pa_nil)))) pe_int))
  (pss_one (ps_ret (pe_lst (pa_cons (pe_callB (call_max2 rfl) (by rfl) B.max_ (by decide +kernel) (pa_cons pe_int (pa_cons (pe_op op_sub (pv 3) (pe_op op_powG pe_int pe_int)) pa_nil))) (pa_cons (pe_op op_modN (pe_callTy call_int1 (by rfl) B.int_ (by decide +kernel) (pa_cons (pv 4) pa_nil)) pe_int) (pa_cons pe_int pa_nil))))))))), ?_⟩
  refine ⟨.int (j : Int), rfl, .ref a, rfl, a, _, rfl, .inl hS, _, _, rfl, rfl, _, rfl, ite2 (fun z => ?c1) (fun z => ?c2)⟩
  case' c1 =>
    have hj : (j : Int) < ((ns.map V.int).length : Nat) := of_decide_eq_true z
    rw [List.length_map] at hj
    have hj : j < ns.length := by omega
    have hat : (ns.map V.int)[j]? = some (.int ns[j]) := by
      rw [List.getElem?_map, List.getElem?_eq_getElem hj]
      rfl
    refine ⟨.ref a, rfl, .int (j : Int), rfl, a, _, _, .int ns[j], rfl, rfl, hS, atI_nat hat, ?_⟩
    generalize ns[j] = cell
  case' c2 =>
    refine ⟨.int (j : Int), rfl, 67, _, rfl, rfl, .inl ⟨by decide, by decide⟩, _, _, rfl, rfl, ?_⟩
    generalize (67 * (j : Int)) = cell0
  all_goals
    refine ⟨_, rfl, _, rfl, .inl ⟨_, rfl, 10, 47, rfl, rfl, pc47, _, 13, rfl, rfl, pc13, _, _, rfl, rfl, Int.ne_of_gt big_pos, ?_⟩⟩
    refine ⟨_, rfl, .inl ⟨_, rfl, _, _, rfl, rfl, (show (2147483237 : Int) ≠ 0 by decide), _, _, rfl, rfl, .inr ⟨(by decide : -(2 ^ 64) < (96293 : Int)), (by decide : (96293 : Int) < 2 ^ 64)⟩, _, rfl, _, _, rfl, rfl, .inl ⟨(by decide : -(2 ^ 64) < (8123 : Int)), (by decide : (8123 : Int) < 2 ^ 64)⟩, _, _, rfl, rfl, ?_⟩⟩
    refine ⟨_, rfl, _, _, rfl, rfl, .inr ⟨_, rfl, _, _, rfl, rfl, .inl ⟨(by decide : -(2 ^ 64) < (47 : Int)), (by decide : (47 : Int) < 2 ^ 64)⟩, _, _, rfl, rfl, _, _, rfl, rfl, ?_⟩⟩
    refine ⟨_, rfl, 10, 18, rfl, rfl, pc18, _, _, rfl, rfl, _, _, rfl, _, rfl, .inl ⟨_, rfl, _, _, rfl, rfl, (show (2305843009213693907 : Int) ≠ 0 by decide), by show 3 ≤ sizeLine; decide, fun p np => ?_⟩⟩
    exact q p _ _ _ np (cut0 (fm_pos big_pos).1 (fm_lt big_pos big_lt) pw18).1 (cut0 (fm_pos big_pos).1 (fm_lt big_pos big_lt) pw18).2
end
theorem But.upD {k p : Addr} {H G : Hp} {o : HO} (n : H p = none) (ne : p ≠ k) (a : But k H G) : But k H (upd G p o) := by
  obtain ⟨x, y, z, e, r⟩ := a.sack
  refine ⟨fun b u nb e => ?_, x, y, z, by rw [upd_ne ne.symm]; exact e, r⟩
  rw [upd_ne (ne_of_none e n)]
  exact a.stay b u nb e
theorem Sack.ne {H : Hp} {k p : Addr} (h : Sack H k) (n : H p = none) : p ≠ k := fun e => by
  obtain ⟨_, _, _, z, _⟩ := h
  rw [← e, n] at z
  cases z
theorem Sack.same {H G : Hp} {k : Addr} (h : Sack H k) (s : Same H G) : Sack G k := (But.same h s).sack
theorem seq_at {n j : Nat} (h : j < n) : seqIndex? (j : Int) n = some j := by
  have h1 : ¬ ((j : Int) < 0) := by omega
  unfold seqIndex?
  simp only [h1, if_false]
  have e : (decide (0 ≤ (j : Int)) && decide ((j : Int) < (n : Int))) = true := by
    rw [Bool.and_eq_true, decide_eq_true_eq, decide_eq_true_eq]
    omega
  rw [if_pos e, Int.toNat_natCast]
theorem erase_perm : ∀ (l : List V) (j : Nat) (h : j < l.length), (l[j] :: l.eraseIdx j).Perm l
  | x :: l, 0, _ => List.Perm.refl _
  | x :: l, j + 1, h => by
    have h' : j < l.length := by simpa using h
    have ih := erase_perm l j h'
    show (l[j] :: x :: l.eraseIdx j).Perm (x :: l)
    exact (List.Perm.swap x l[j] _).trans (List.Perm.cons x ih)
section
variable {P : Program} {w : World} {K : PySem.W.Frag} {mg : Str → Option Value} {base : Heap}
abbrev CGrab (P : Program) (w : World) (K : PySem.W.Frag) (mg : Str → Option Value) (base : Heap) : Prop := Has P w K mg base 1 "_law_grab" ["_law_sack_here", "_law_total"] spGrab
def spShuf : Sp := fun vs H Q _ => ∃ (k : Addr) (u : V) (xs : List V), vs = [.ref k, u] ∧ Sack H k ∧ ((∃ l, u = .ref l ∧ H l = some (.lst xs)) ∨ ∃ x : Str, u = .str x ∧ xs = sgnV x) ∧ xs.length ≤ 1000 ∧ ∀ G p ys, But k H G → p ≠ k → H p = none → G p = some (.lst ys) → ys.Perm xs → Q (.ref p) G
theorem ok_shuffled {f : Addr} {fd : FuncData} (F : Fun K "_law_shuffled" "_law_shuffled" s_shuffled f fd) (B : Blt mg) (C : CGrab P w K mg base) : FnOk P w K mg base CX0 2 f fd ["_law_sack_here", "_law_items"] spShuf := by
  obtain ⟨f1, fd1, G_grab, g_grab, k_grab, b_grab⟩ := C.ex
  refine F.ok sc_shuffled (fun vs H Q E h => ?_) (fun cdv A outer s H vs Q E hr h => ?_)
  · obtain ⟨k, u, xs, rfl, _⟩ := h
    rfl
  obtain ⟨k, u, xs, rfl, hk, hl, few, q⟩ := h
  have src : ∀ {F : Hp} {R : VK}, Same H F → (∀ p, F p = none → R (.ref p) (upd F p (.lst xs))) → rListA K [u] F R := fun {F R} sF hR => by
    rcases hl with ⟨l, rfl, hl⟩ | ⟨x, rfl, e⟩
    · exact ⟨.inl ⟨l, xs, rfl, .inl (SqL.of (sF _ _ hl)), hR⟩⟩
    · refine ⟨.inr ⟨x, rfl, ?_, ?_⟩⟩
      · rw [← sgnV_len, ← e]
        exact few
      · rw [← e]
        exact hR
  refine ⟨_, (pss_cons (ps_set (i := 2) sc_shuffled.nd rfl (.inr rfl) (pe_callTy (call_listA rfl) (by rfl) B.list_ (by decide +kernel) (pa_cons (pv 1) pa_nil)))
  (pss_one (ps_ret (pe_lc (own := [("_law_turn", 3)]) (g := gName 3) (tt := tYes) (te := tBM K "list" rPopAt (tVar 2) (tCons (tCall spGrab [] E0 (tCons (tVar 0) (tCons (tCB (fun xs H Q => ∃ p ys, xs = [V.ref p] ∧ (SqL K H p ys ∨ SqT K H p ys) ∧ Q (.int ys.length) H) (tCons (tVar 2) tNil)) tNil))) tNil)) rfl sc_shuffled.nd (pi_list (pe_callTy (call_listA rfl) (by rfl) B.list_ (by decide +kernel) (pa_cons (pv 1) pa_nil))) (blkOk_by (own := [("_law_turn", 3)]) (N := nm_shuffled) (sc := defScope s_shuffled) (by decide +kernel)) (fun _ _ _ _ _ => (pg_name (i := 3) sc_shuffled.nd rfl (.inl rfl))) (fun _ _ _ _ _ => pts_nil) (fun _ _ _ _ _ => (pe_bm PySem.F.plainAttrs_list PySem.F.slot_list_pop PySem.F.type_list_pop mt_popAt (pv 2) (pa_cons (pe_call G_grab (hr.mono (by decide)) (by rfl) g_grab k_grab b_grab .nil pass0 (pa_cons (pv 0) (pa_cons (pe_callB call_len_seq (by rfl) B.len_ (by decide +kernel) (pa_cons (pv 2) pa_nil)) pa_nil))) pa_nil))))))), ?_⟩
  refine ⟨_, rfl, src (Same.refl H) fun w0 nw0 => ?_⟩
  have w0k := hk.ne nw0
  have e0 : (upd H w0 (.lst xs)) w0 = some (.lst xs) := upd_same
  have s0 : Same H (upd H w0 (.lst xs)) := Same.newG nw0
  generalize upd H w0 (.lst xs) = H0 at e0 s0 ⊢
  refine ⟨_, rfl, src s0 fun l2 nl2 => ?_⟩
  have l2k := (hk.same s0).ne nl2
  have e2 : (upd H0 l2 (.lst xs)) l2 = some (.lst xs) := upd_same
  have s2 : Same H0 (upd H0 l2 (.lst xs)) := Same.newG nl2
  have l2w : l2 ≠ w0 := fun z => by
    rw [z, e0] at nl2
    cases nl2
  have n2 : H l2 = none := s0.free nl2
  generalize upd H0 l2 (.lst xs) = H1 at e2 s2 ⊢
  refine ⟨l2, rfl, ⟨xs, SqL.of e2⟩, fun D nD => ?_⟩
  have Dk := ((hk.same s0).same s2).ne nD
  have Dw : D ≠ w0 := fun z => by
    rw [z, s2 _ _ e0] at nD
    cases nD
  have D2 : D ≠ l2 := fun z => by
    rw [z, e2] at nD
    cases nD
  have nDH : H D = none := (s0.trans s2).free nD
  refine lc_list (xs := xs) (fun n F => ∃ acc rest, F w0 = some (.lst rest) ∧ F D = some (.lst acc) ∧ (acc ++ rest).Perm xs ∧ acc.length = n ∧ But k H F ∧ F l2 = some (.lst xs)) ?_ (fun n F _ p => ?_) (fun n x F hx p => ?_) (fun F p => ?_)
  · exact ⟨[], xs, by rw [upd_ne Dw.symm]; exact s2 _ _ e0, upd_same, List.Perm.refl _, rfl, (But.same hk ((s0.trans s2).trans (Same.newG nD))), by rw [upd_ne D2.symm]; exact e2⟩
  · obtain ⟨_, _, _, _, _, _, _, z⟩ := p
    exact SqL.of z
  · obtain ⟨acc, rest, hw, hD, hp, hn, bt, h2⟩ := p
    have hlen : acc.length + rest.length = xs.length := by
      have z := hp.length_eq
      rw [List.length_append] at z
      exact z
    have hnx : n < xs.length := (List.getElem?_eq_some_iff.mp hx).1
    refine ⟨rfl, tyes ⟨_, rfl, .inl ⟨rfl, _, SqL.of hw⟩, _, rfl, _, rfl, w0, rest, rfl, .inl (SqL.of hw), k, _, rfl, bt.sack, by omega, by omega, fun F2 j b2 j0 j1 => ?_⟩⟩
    obtain ⟨j, rfl⟩ := Int.eq_ofNat_of_zero_le j0
    have hj : j < rest.length := by omega
    have hw2 := b2.stay _ _ w0k hw
    have hD2 := b2.stay _ _ Dk hD
    have h22 := b2.stay _ _ l2k h2
    refine ⟨w0, rest, j, j, rest[j], rfl, rfl, hw2, by omega, by omega, seq_at hj, List.getElem?_eq_getElem hj, acc, by rw [upd_ne Dw]; exact hD2, small1000 (by omega), acc ++ [rest[j]], rest.eraseIdx j, by rw [upd_ne Dw.symm, upd_same], upd_same, ?_, by rw [List.length_append, hn]; rfl, ?_, by rw [upd_ne D2.symm, upd_ne l2w]; exact h22⟩
    · rw [List.append_assoc]
      exact ((List.Perm.append_left acc (erase_perm rest j hj)).trans hp)
    · exact But.upD nDH Dk (But.upD nw0 w0k (bt.trans b2))
  · obtain ⟨acc, rest, hw, hD, hp, hn, bt, h2⟩ := p
    have hlen : acc.length + rest.length = xs.length := by
      have z := hp.length_eq
      rw [List.length_append] at z
      exact z
    have hr0 : rest = [] := List.eq_nil_of_length_eq_zero (by omega)
    subst hr0
    rw [List.append_nil] at hp
    exact q F D acc bt Dk nDH hD hp
end
end K7

set_option Elab.async false
set_option linter.all false
set_option maxRecDepth 100000
set_option maxHeartbeats 4000000
/-! Jq: values as a judge sees them: their kinds, to any depth of tuples. -/
namespace Gd
open PySem PySem.Spec PyProof.Rows L2
inductive Jv where
  | non | bl (b : Bool) | int (i : Int) | str (x : Str) | lst | dic | obj (C : Addr) | tup (js : List Jv)
/-- an own class whose instances are none of the built-in kinds -/
structure PlainC (K : PySem.W.Frag) (C : Addr) : Prop where
  cl : Cls K C
  ha : PySem.W.findIn K (.ref C) "__class__" = some (some (.builtin "object.__class__"))
  hn : PySem.W.specialIn K (.builtin "object.__class__") "__get__" = some (some (.builtin "getset_descriptor.__get__"))
  ht : PySem.W.takesIn K (.builtin "object.__class__") = some true
  hm : PySem.W.mroIn K C (.type "object") = some true
  no : ∀ T, (T = "int" ∨ T = "bool" ∨ T = "str" ∨ T = "tuple" ∨ T = "dict") → PySem.W.kitOne K (.ref C) (.type T) = some false
mutual
inductive Js (K : PySem.W.Frag) (H : Hp) : V → Jv → Prop
  | non : Js K H .non .non
  | bl (b : Bool) : Js K H (.bl b) (.bl b)
  | int (i : Int) : Js K H (.int i) (.int i)
  | str (x : Str) (few : x.length ≤ 1000) : Js K H (.str x) (.str x)
  | lst {a : Addr} {xs : List V} (h : H a = some (.lst xs)) : Js K H (.ref a) .lst
  | dic {a : Addr} {kvs : List (Key × V)} (h : H a = some (.dK kvs)) : Js K H (.ref a) .dic
  | obj {a C dx : Addr} {fs : List (Str × V)} (h : H a = some (.ins C dx fs)) (c : PlainC K C) : Js K H (.ref a) (.obj C)
  | tup {a : Addr} {xs : List V} {js : List Jv} (h : SqT K H a xs) (few : xs.length ≤ 1000) (r : JsAll K H xs js) : Js K H (.ref a) (.tup js)
inductive JsAll (K : PySem.W.Frag) (H : Hp) : List V → List Jv → Prop
  | nil : JsAll K H [] []
  | cons {v : V} {vs : List V} {j : Jv} {js : List Jv} (h : Js K H v j) (r : JsAll K H vs js) : JsAll K H (v :: vs) (j :: js)
end
section
variable {K : PySem.W.Frag} {H G : Hp}
mutual
theorem Js.same (s : Same H G) : ∀ {v : V} {j : Jv}, Js K H v j → Js K G v j
  | _, _, .non => .non
  | _, _, .bl b => .bl b
  | _, _, .int i => .int i
  | _, _, .str x few => .str x few
  | _, _, .lst h => .lst (s _ _ h)
  | _, _, .dic h => .dic (s _ _ h)
  | _, _, .obj h c => .obj (s _ _ h) c
  | _, _, .tup h few r => .tup (s.tupS h) few (JsAll.same s r)
theorem JsAll.same (s : Same H G) : ∀ {vs : List V} {js : List Jv}, JsAll K H vs js → JsAll K G vs js
  | _, _, .nil => .nil
  | _, _, .cons h r => .cons (Js.same s h) (JsAll.same s r)
end
theorem JsAll.len : ∀ {vs : List V} {js : List Jv}, JsAll K H vs js → vs.length = js.length
  | _, _, .nil => rfl
  | _, _, .cons _ r => congrArg (· + 1) (JsAll.len r)
theorem JsAll.get : ∀ {vs : List V} {js : List Jv} {i : Nat} {x : V}, JsAll K H vs js → vs[i]? = some x → ∃ j, js[i]? = some j ∧ Js K H x j
  | _, _, _, _, .nil, e => by simp at e
  | _, _, 0, _, .cons h _, e => by
    cases (Option.some.inj e)
    exact ⟨_, rfl, h⟩
  | _, _, i + 1, x, .cons _ r, e => JsAll.get (i := i) (x := x) r (by simpa using e)
def Jv.ty : Jv → Value
  | .non => .type "NoneType"
  | .bl _ => .type "bool"
  | .int _ => .type "int"
  | .str _ => .type "str"
  | .lst => .type "list"
  | .dic => .type "dict"
  | .obj C => .ref C
  | .tup _ => .type "tuple"
theorem Js.tyX {v : V} {j : Jv} (h : Js K H v j) : TyX K H v j.ty := by
  cases h with
  | non => exact .base .non
  | bl b => exact .base (.bl b)
  | int i => exact .base (.int i)
  | str x few => exact .base (.str x)
  | lst h => exact .base (.lst h)
  | dic h => exact .base (.dK h)
  | obj h c => exact .base (.ins h c.cl c.ha c.hn c.ht c.hm)
  | tup h few r =>
    rcases h with (h | ⟨o, h⟩) | ⟨o, its, n, hk, hc, _⟩
    · exact .base (.tup h)
    · exact .fTuple h
    · exact .kTuple hk hc
/-- isinstance of a built-in kind -/
def kindIs (n T : String) : Bool := n == T || (n == "bool" && T == "int")
def Jv.is : Jv → String → Bool
  | .non, T => kindIs "NoneType" T
  | .bl _, T => kindIs "bool" T
  | .int _, T => kindIs "int" T
  | .str _, T => kindIs "str" T
  | .lst, T => kindIs "list" T
  | .dic, T => kindIs "dict" T
  | .obj _, _ => false
  | .tup _, T => kindIs "tuple" T
theorem Js.kit {v : V} {j : Jv} (h : Js K H v j) {T : String} (hT : T = "int" ∨ T = "bool" ∨ T = "str" ∨ T = "tuple" ∨ T = "dict") : PySem.W.kitOne K j.ty (.type T) = some (j.is T) := by
  cases h with
  | obj h c => exact c.no T hT
  | non => rcases hT with rfl | rfl | rfl | rfl | rfl <;> exact kit_ty (show kitB "NoneType" _ = some (kindIs "NoneType" _) by decide +kernel)
  | bl b => rcases hT with rfl | rfl | rfl | rfl | rfl <;> exact kit_ty (show kitB "bool" _ = some (kindIs "bool" _) by decide +kernel)
  | int i => rcases hT with rfl | rfl | rfl | rfl | rfl <;> exact kit_ty (show kitB "int" _ = some (kindIs "int" _) by decide +kernel)
  | str x few => rcases hT with rfl | rfl | rfl | rfl | rfl <;> exact kit_ty (show kitB "str" _ = some (kindIs "str" _) by decide +kernel)
  | lst h => rcases hT with rfl | rfl | rfl | rfl | rfl <;> exact kit_ty (show kitB "list" _ = some (kindIs "list" _) by decide +kernel)
  | dic h => rcases hT with rfl | rfl | rfl | rfl | rfl <;> exact kit_ty (show kitB "dict" _ = some (kindIs "dict" _) by decide +kernel)
  | tup h few r => rcases hT with rfl | rfl | rfl | rfl | rfl <;> exact kit_ty (show kitB "tuple" _ = some (kindIs "tuple" _) by decide +kernel)
theorem Js.isi {v : V} {j : Jv} {R : Bool → Prop} (h : Js K H v j) {T : String} (hT : T = "int" ∨ T = "bool" ∨ T = "str" ∨ T = "tuple" ∨ T = "dict") (q : R (j.is T)) :
    ∃ (x c : V) (t u : Value) (b : Bool), [v, V.ty T] = [x, c] ∧ ClsV c u ∧ TyX K H x t ∧ PySem.W.kitOne K t u = some b ∧ R b :=
  ⟨_, _, _, _, _, rfl, .ty _, h.tyX, h.kit hT, q⟩
end
/-! ### one < other: ints, texts, tuples of ints -/
inductive Lt3 (K : PySem.W.Frag) (H : Hp) : V → V → Bool → Prop
  | int (i j : Int) : Lt3 K H (.int i) (.int j) (decide (i < j))
  | str (x y : Str) : Lt3 K H (.str x) (.str y) (decide (x.cps.toList < y.cps.toList))
  | tup {a b : Addr} {ns ms : List Int} (h1 : SqT K H a (ns.map V.int)) (h2 : SqT K H b (ms.map V.int)) : Lt3 K H (.ref a) (.ref b) (HT.lexLt ns ms)
theorem Lt3.same {K : PySem.W.Frag} {H G : Hp} {x y : V} {b : Bool} (s : Same H G) (h : Lt3 K H x y b) : Lt3 K G x y b := by
  cases h with
  | int i j => exact .int i j
  | str x y => exact .str x y
  | tup h1 h2 => exact .tup (s.tupS h1) (s.tupS h2)
def rLt3 (K : PySem.W.Frag) : R2 := fun x y H Q => ∃ b, Lt3 K H x y b ∧ Q (.bl b) H
theorem op_lt3 {X : Cx} (hu : X.A.units < cLine) : OpR X (compareOp .Lt) (rLt3 X.K) := by
  intro pins s σ H x y v u Q I rx ry h
  obtain ⟨b, h, q⟩ := h
  cases h with
  | int i j => exact op_lt pins s σ H _ _ v u Q I rx ry ⟨i, j, rfl, rfl, q⟩
  | str x y => exact op_lt_str pins s σ H _ _ v u Q I rx ry ⟨x, y, rfl, rfl, q⟩
  | tup h1 h2 => exact op_ltT hu pins s σ H _ _ v u Q I rx ry ⟨_, _, _, _, rfl, rfl, h1, h2, q⟩
/-- whether each is below the next one -/
def allAdj (lt : V → V → Bool) : List V → Bool
  | x :: y :: r => lt x y && allAdj lt (y :: r)
  | _ => true
def adjs (lt : V → V → Bool) (xs : List V) : List Bool := (xs.zip (xs.drop 1)).map fun p => lt p.1 p.2
theorem adjs_all (lt : V → V → Bool) : ∀ xs : List V, (adjs lt xs).all id = allAdj lt xs
  | [] => rfl
  | [x] => rfl
  | x :: y :: r => by
    have ih := adjs_all lt (y :: r)
    show ((lt x y :: adjs lt (y :: r)).all id) = (lt x y && allAdj lt (y :: r))
    rw [List.all_cons, ih]
    rfl
theorem adjs_len (lt : V → V → Bool) (xs : List V) : (adjs lt xs).length = xs.length - 1 := by
  unfold adjs
  rw [List.length_map, List.length_zip, List.length_drop]
  omega
theorem adjs_get (lt : V → V → Bool) (xs : List V) (i : Nat) (x y : V) (hx : xs[i]? = some x) (hy : xs[i + 1]? = some y) : (adjs lt xs)[i]? = some (lt x y) := by
  unfold adjs
  have z : (xs.zip (xs.drop 1))[i]? = some (x, y) := List.getElem?_zip_eq_some.mpr ⟨hx, by rw [List.getElem?_drop, Nat.add_comm]; exact hy⟩
  rw [List.getElem?_map, z]
  rfl
end Gd

set_option Elab.async false
set_option linter.all false
set_option maxRecDepth 100000
set_option maxHeartbeats 8000000
namespace K7
open PySem PySem.Spec PyProof.Rows L2 Gd
theorem cut_tail (xs : List V) : cutV xs (some 1) none = xs.drop 1 := by
  unfold cutV
  rw [show HT.sIx xs.length 0 (some 1) = min 1 xs.length from HT.sIx_nat xs.length 0 1, HT.sIx_none]
  rcases xs with _ | ⟨x, r⟩
  · rfl
  · have e : min 1 (x :: r).length = 1 := by
      rw [List.length_cons]
      omega
    rw [e]
    show List.take (r.length + 1 - 1) r = r
    rw [Nat.add_sub_cancel, List.take_length]
theorem is_non_int : Jv.is .non "int" = false := (by decide +kernel : kindIs "NoneType" "int" = false)
theorem is_non_bool : Jv.is .non "bool" = false := (by decide +kernel : kindIs "NoneType" "bool" = false)
theorem is_non_str : Jv.is .non "str" = false := (by decide +kernel : kindIs "NoneType" "str" = false)
theorem is_non_tuple : Jv.is .non "tuple" = false := (by decide +kernel : kindIs "NoneType" "tuple" = false)
theorem is_non_dict : Jv.is .non "dict" = false := (by decide +kernel : kindIs "NoneType" "dict" = false)
theorem is_bl_int (b : Bool) : Jv.is (.bl b) "int" = true := (by decide +kernel : kindIs "bool" "int" = true)
theorem is_bl_bool (b : Bool) : Jv.is (.bl b) "bool" = true := (by decide +kernel : kindIs "bool" "bool" = true)
theorem is_bl_str (b : Bool) : Jv.is (.bl b) "str" = false := (by decide +kernel : kindIs "bool" "str" = false)
theorem is_bl_tuple (b : Bool) : Jv.is (.bl b) "tuple" = false := (by decide +kernel : kindIs "bool" "tuple" = false)
theorem is_bl_dict (b : Bool) : Jv.is (.bl b) "dict" = false := (by decide +kernel : kindIs "bool" "dict" = false)
theorem is_int_int (i : Int) : Jv.is (.int i) "int" = true := (by decide +kernel : kindIs "int" "int" = true)
theorem is_int_bool (i : Int) : Jv.is (.int i) "bool" = false := (by decide +kernel : kindIs "int" "bool" = false)
theorem is_int_str (i : Int) : Jv.is (.int i) "str" = false := (by decide +kernel : kindIs "int" "str" = false)
theorem is_int_tuple (i : Int) : Jv.is (.int i) "tuple" = false := (by decide +kernel : kindIs "int" "tuple" = false)
theorem is_int_dict (i : Int) : Jv.is (.int i) "dict" = false := (by decide +kernel : kindIs "int" "dict" = false)
theorem is_str_int (x : Str) : Jv.is (.str x) "int" = false := (by decide +kernel : kindIs "str" "int" = false)
theorem is_str_bool (x : Str) : Jv.is (.str x) "bool" = false := (by decide +kernel : kindIs "str" "bool" = false)
theorem is_str_str (x : Str) : Jv.is (.str x) "str" = true := (by decide +kernel : kindIs "str" "str" = true)
theorem is_str_tuple (x : Str) : Jv.is (.str x) "tuple" = false := (by decide +kernel : kindIs "str" "tuple" = false)
theorem is_str_dict (x : Str) : Jv.is (.str x) "dict" = false := (by decide +kernel : kindIs "str" "dict" = false)
theorem is_lst_int : Jv.is .lst "int" = false := (by decide +kernel : kindIs "list" "int" = false)
theorem is_lst_bool : Jv.is .lst "bool" = false := (by decide +kernel : kindIs "list" "bool" = false)
theorem is_lst_str : Jv.is .lst "str" = false := (by decide +kernel : kindIs "list" "str" = false)
theorem is_lst_tuple : Jv.is .lst "tuple" = false := (by decide +kernel : kindIs "list" "tuple" = false)
theorem is_lst_dict : Jv.is .lst "dict" = false := (by decide +kernel : kindIs "list" "dict" = false)
theorem is_dic_int : Jv.is .dic "int" = false := (by decide +kernel : kindIs "dict" "int" = false)
theorem is_dic_bool : Jv.is .dic "bool" = false := (by decide +kernel : kindIs "dict" "bool" = false)
theorem is_dic_str : Jv.is .dic "str" = false := (by decide +kernel : kindIs "dict" "str" = false)
theorem is_dic_tuple : Jv.is .dic "tuple" = false := (by decide +kernel : kindIs "dict" "tuple" = false)
theorem is_dic_dict : Jv.is .dic "dict" = true := (by decide +kernel : kindIs "dict" "dict" = true)
theorem is_tup_int (js : List Jv) : Jv.is (.tup js) "int" = false := (by decide +kernel : kindIs "tuple" "int" = false)
theorem is_tup_bool (js : List Jv) : Jv.is (.tup js) "bool" = false := (by decide +kernel : kindIs "tuple" "bool" = false)
theorem is_tup_str (js : List Jv) : Jv.is (.tup js) "str" = false := (by decide +kernel : kindIs "tuple" "str" = false)
theorem is_tup_tuple (js : List Jv) : Jv.is (.tup js) "tuple" = true := (by decide +kernel : kindIs "tuple" "tuple" = true)
theorem is_tup_dict (js : List Jv) : Jv.is (.tup js) "dict" = false := (by decide +kernel : kindIs "tuple" "dict" = false)
theorem is_obj_int (C : Addr) : Jv.is (.obj C) "int" = false := rfl
theorem is_obj_bool (C : Addr) : Jv.is (.obj C) "bool" = false := rfl
theorem is_obj_str (C : Addr) : Jv.is (.obj C) "str" = false := rfl
theorem is_obj_tuple (C : Addr) : Jv.is (.obj C) "tuple" = false := rfl
theorem is_obj_dict (C : Addr) : Jv.is (.obj C) "dict" = false := rfl

def TL : Int := 1000000000000000000000000000000000000000000000000000000000000
/-! ### the judges, on judged values -/
def valJ : Jv → Int
  | .int i => i
  | _ => 0
def shortJ : Jv → Bool
  | .int i => decide (-TL < i) && decide (i < TL)
  | _ => false
def numJ (j : Jv) : Bool := shortJ j && decide (0 ≤ valJ j)
def belowJ (n : Int) (j : Jv) : Bool := numJ j && decide (valJ j < n)
def inLetters (c : Nat) : Bool := decide (c ∈ letters.cps.toList)
def nameJ : Jv → Bool
  | .str x => decide ((1 : Int) ≤ (x.length : Int)) && decide ((x.length : Int) ≤ 8) && x.cps.toList.all inLetters
  | _ => false
def itemsJ : Jv → List Jv
  | .tup js => js
  | _ => []
def rowJ (n p : Int) (j : Jv) : Bool := j.is "tuple" && (decide (((itemsJ j).length : Int) = p) && (itemsJ j).all (belowJ n))
def intsJ (j : Jv) : List Int := (itemsJ j).map valJ
def ascL : List (List Int) → Bool
  | x :: y :: r => HT.lexLt x y && ascL (y :: r)
  | _ => true
def rowsJ (n p : Int) (j : Jv) : Bool := j.is "tuple" && ((itemsJ j).all (rowJ n p) && ascL ((itemsJ j).map intsJ))
structure Cst (mg : Str → Option Value) : Prop where
  letters_ : ∃ t, mg "MAX_LETTERS" = some (.int 8 t)
  alpha : ∃ t, mg "LETTERS" = some (.str letters t)
  long : ∃ t, mg "TOO_LONG" = some (.int TL t)
  values : ∃ t, mg "MAX_VALUES" = some (.int 4 t)
  ties : ∃ t, mg "MAX_TIES" = some (.int 8 t)
  places : ∃ t, mg "MAX_PLACES" = some (.int 3 t)
section
variable {P : Program} {w : World} {K : PySem.W.Frag} {mg : Str → Option Value} {base : Heap}
def spInt (K : PySem.W.Frag) : Sp := fun vs H Q _ => ∃ v j, vs = [v] ∧ Js K H v j ∧ Q (.bl (shortJ j)) H
theorem ok_is_integer {f : Addr} {fd : FuncData} (F : Fun K "is_integer" "is_integer" s_is_integer f fd) (B : Blt mg) (Cc : Cst mg) : FnOk P w K mg base CX0 1 f fd ["value"] (spInt K) := by
  obtain ⟨t1, g_TOO_LONG⟩ := Cc.long
  refine F.ok sc_is_integer (fun vs H Q E h => ?_) (fun cdv A outer s H vs Q E hr h => ?_)
  · obtain ⟨v, j, rfl, _⟩ := h
    rfl
  obtain ⟨v, j, rfl, hk, q⟩ := h
  refine ⟨_, (pss_one (ps_ret (pe_and (pe_callB call_isi (by rfl) B.isinstance_ (by decide +kernel) (pa_cons (pv 0) (pa_cons (pe_bltn (v := .ty "int") rfl B.int_ boot_int rfl) pa_nil))) (pe_and (pe_not (pe_callB call_isi (by rfl) B.isinstance_ (by decide +kernel) (pa_cons (pv 0) (pa_cons (pe_bltn (v := .ty "bool") rfl B.bool_ boot_bool rfl) pa_nil)))) (pe_one (pe_chain op_lt op_lt (pe_un un_neg (pe_glob (v := .int TL) rfl g_TOO_LONG ⟨_, rfl⟩)) (pv 0) (pe_glob (v := .int TL) rfl g_TOO_LONG ⟨_, rfl⟩))))))), ?_⟩
  refine ⟨v, rfl, hk.isi (.inl rfl) ⟨_, rfl, ?_⟩⟩
  cases hk with
  | int i =>
    rw [is_int_int]
    refine iteT ⟨_, rfl, (Js.int i).isi (K := K) (.inr (.inl rfl)) ⟨_, rfl, _, rfl, ?_⟩⟩
    rw [is_int_bool]
    refine iteT ?_
    refine ⟨TL, rfl, .int i, rfl, -TL, i, rfl, rfl, _, rfl, ?_⟩
    by_cases h1 : -TL < i
    · rw [decide_eq_true h1]
      refine iteT ⟨i, TL, rfl, rfl, ?_⟩
      have e : shortJ (.int i) = decide (i < TL) := by
        show (decide (-TL < i) && decide (i < TL)) = _
        rw [decide_eq_true h1, Bool.true_and]
      rw [e] at q
      exact q
    · rw [decide_eq_false h1]
      refine iteF ?_
      have e : shortJ (.int i) = false := by
        show (decide (-TL < i) && decide (i < TL)) = _
        rw [decide_eq_false h1, Bool.false_and]
      rw [e] at q
      exact q
  | bl b =>
    rw [is_bl_int]
    refine iteT ⟨_, rfl, (Js.bl b).isi (K := K) (.inr (.inl rfl)) ⟨_, rfl, _, rfl, ?_⟩⟩
    rw [is_bl_bool]
    exact iteF q
  | non => rw [is_non_int]; exact iteF q
  | str x few => rw [is_str_int]; exact iteF q
  | lst h => rw [is_lst_int]; exact iteF q
  | dic h => rw [is_dic_int]; exact iteF q
  | obj h c => rw [is_obj_int]; exact iteF q
  | tup h few r => rw [is_tup_int]; exact iteF q
theorem short_int {j : Jv} (h : shortJ j = true) : ∃ i, j = .int i := by
  cases j with
  | int i => exact ⟨i, rfl⟩
  | _ => cases h
theorem js_int {H : Hp} {v : V} {i : Int} (h : Js K H v (.int i)) : v = .int i := by
  cases h
  rfl
def spNum (K : PySem.W.Frag) : Sp := fun vs H Q _ => ∃ v j, vs = [v] ∧ Js K H v j ∧ Q (.bl (numJ j)) H
theorem ok_is_number {f : Addr} {fd : FuncData} (F : Fun K "is_number" "is_number" s_is_number f fd) (C : Has P w K mg base 1 "is_integer" ["value"] (spInt K)) : FnOk P w K mg base CX0 2 f fd ["value"] (spNum K) := by
  obtain ⟨f1, fd1, G_is_integer, g_is_integer, k_is_integer, b_is_integer⟩ := C.ex
  refine F.ok sc_is_number (fun vs H Q E h => ?_) (fun cdv A outer s H vs Q E hr h => ?_)
  · obtain ⟨v, j, rfl, _⟩ := h
    rfl
  obtain ⟨v, j, rfl, hk, q⟩ := h
  refine ⟨_, (pss_one (ps_ret (pe_and (pe_call G_is_integer (hr.mono (by decide)) (by rfl) g_is_integer k_is_integer b_is_integer .nil pass0 (pa_cons (pv 0) pa_nil)) (pe_one (pe_cmpR op_ge (pv 0) pe_int (nomark _)))))), ?_⟩
  refine ⟨v, rfl, v, j, rfl, hk, _, rfl, ?_⟩
  have e : numJ j = (shortJ j && decide (0 ≤ valJ j)) := rfl
  rw [e] at q
  cases hs : shortJ j with
  | false =>
    rw [hs, Bool.false_and] at q
    exact iteF q
  | true =>
    obtain ⟨i, rfl⟩ := short_int hs
    have ev := js_int hk
    subst ev
    rw [hs, Bool.true_and] at q
    exact iteT ⟨.int i, rfl, i, 0, rfl, rfl, q⟩
def spBelow (K : PySem.W.Frag) : Sp := fun vs H Q _ => ∃ v j n, vs = [v, .int n] ∧ Js K H v j ∧ Q (.bl (belowJ n j)) H
theorem num_int {j : Jv} (h : numJ j = true) : ∃ i, j = .int i := short_int (Bool.and_eq_true_iff.mp h).1
theorem ok_is_below {f : Addr} {fd : FuncData} (F : Fun K "is_below" "is_below" s_is_below f fd) (C : Has P w K mg base 2 "is_number" ["value"] (spNum K)) : FnOk P w K mg base CX0 3 f fd ["value", "limit"] (spBelow K) := by
  obtain ⟨f1, fd1, G_is_number, g_is_number, k_is_number, b_is_number⟩ := C.ex
  refine F.ok sc_is_below (fun vs H Q E h => ?_) (fun cdv A outer s H vs Q E hr h => ?_)
  · obtain ⟨v, j, n, rfl, _⟩ := h
    rfl
  obtain ⟨v, j, n, rfl, hk, q⟩ := h
  refine ⟨_, (pss_one (ps_ret (pe_and (pe_call G_is_number (hr.mono (by decide)) (by rfl) g_is_number k_is_number b_is_number .nil pass0 (pa_cons (pv 0) pa_nil)) (pe_one (pe_cmpR op_lt (pv 0) (pv 1) (nomark _)))))), ?_⟩
  refine ⟨v, rfl, v, j, rfl, hk, _, rfl, ?_⟩
  have e : belowJ n j = (numJ j && decide (valJ j < n)) := rfl
  rw [e] at q
  cases hs : numJ j with
  | false =>
    rw [hs, Bool.false_and] at q
    exact iteF q
  | true =>
    obtain ⟨i, rfl⟩ := num_int hs
    have ev := js_int hk
    subst ev
    rw [hs, Bool.true_and] at q
    exact iteT ⟨.int i, rfl, .int n, rfl, i, n, rfl, rfl, q⟩
def spName (K : PySem.W.Frag) : Sp := fun vs H Q _ => ∃ v j, vs = [v] ∧ Js K H v j ∧ ∀ G, Same H G → Q (.bl (nameJ j)) G
theorem ok_is_name {f : Addr} {fd : FuncData} (F : Fun K "is_name" "is_name" s_is_name f fd) (B : Blt mg) (Cc : Cst mg) : FnOk P w K mg base CX0 1 f fd ["value"] (spName K) := by
  obtain ⟨t1, g_MAX_LETTERS⟩ := Cc.letters_
  obtain ⟨t2, g_LETTERS⟩ := Cc.alpha
  refine F.ok sc_is_name (fun vs H Q E h => ?_) (fun cdv A outer s H vs Q E hr h => ?_)
  · obtain ⟨v, j, rfl, _⟩ := h
    rfl
  obtain ⟨v, j, rfl, hk, q⟩ := h
  refine ⟨_, (pss_one (ps_ret (pe_and (pe_callB call_isi (by rfl) B.isinstance_ (by decide +kernel) (pa_cons (pv 0) (pa_cons (pe_bltn (v := .ty "str") rfl B.str_ boot_str rfl) pa_nil))) (pe_and (pe_chain op_le op_le pe_int (pe_callB call_len_str (by rfl) B.len_ (by decide +kernel) (pa_cons (pv 0) pa_nil)) (pe_glob (v := .int 8) rfl g_MAX_LETTERS ⟨_, rfl⟩)) (pe_one (pe_callB (cr_all rfl) (by rfl) B.all_ (by decide +kernel) (pa_cons (pe_lc (own := [("letter", 1)]) (g := gName 1) (tt := tYes) rfl sc_is_name.nd (pi_str (pv 0)) (blkOk_by (own := [("letter", 1)]) (N := nm_is_name) (sc := defScope s_is_name) (by decide +kernel)) (fun _ _ _ _ _ => (pg_name (i := 1) sc_is_name.nd rfl (.inl rfl))) (fun _ _ _ _ _ => pts_nil) (fun _ _ _ _ _ => (pe_cmpR op_in_sign (pv 1) (pe_glob (v := .str letters) rfl g_LETTERS ⟨_, rfl⟩) rfl))) pa_nil))))))), ?_⟩
  refine ⟨v, rfl, hk.isi (.inr (.inr (.inl rfl))) ⟨_, rfl, ?_⟩⟩
  cases hk with
  | str x few =>
    rw [is_str_str]
    have e : nameJ (.str x) = (decide ((1 : Int) ≤ (x.length : Int)) && decide ((x.length : Int) ≤ 8) && x.cps.toList.all inLetters) := rfl
    rw [e] at q
    refine iteT ⟨.str x, rfl, x, rfl, Nat.le_of_lt (small1000 few), 1, (x.length : Int), rfl, rfl, _, rfl, ?_⟩
    cases h1 : decide ((1 : Int) ≤ (x.length : Int)) with
    | false =>
      rw [h1, Bool.false_and, Bool.false_and] at q
      exact iteF ⟨_, rfl, iteF (q H (Same.refl H))⟩
    | true =>
      rw [h1, Bool.true_and] at q
      refine iteT ⟨_, _, rfl, rfl, _, rfl, ?_⟩
      cases h2 : decide ((x.length : Int) ≤ 8) with
      | false =>
        rw [h2, Bool.false_and] at q
        exact iteF (q H (Same.refl H))
      | true =>
        rw [h2, Bool.true_and] at q
        refine iteT ⟨.str x, rfl, x, rfl, fun D nD => ?_⟩
        refine lc_strG (Same H) (fun i acc => acc = (x.cps.toList.take i).map fun c => V.bl (inLetters c)) (Same.newG nD) rfl (fun i c G hc nx => ?_) (fun G acc sm eD ea => ?_)
        · obtain ⟨acc, sm, eD, ea⟩ := nx
          refine ⟨rfl, ?_⟩
          refine tyes ?_
          refine ⟨_, rfl, c, letters, rfl, rfl, nx_put (fun G o z => z.upG nD) sm eD ?_ ?_⟩
          · rw [ea, List.length_map, List.length_take]
            exact Nat.le_trans (Nat.min_le_right _ _) (by simpa [Str.length] using few)
          · have hc' : x.cps.toList[i]? = some c := by simpa using hc
            rw [ea, List.take_add_one, hc', List.map_append]
            rfl
        · refine ⟨D, x.cps.toList.map inLetters, rfl, .inl (.inl ?_), ?_⟩
          · rw [eD, ea, List.take_of_length_le (by simp), List.map_map]
            rfl
          · have z : (x.cps.toList.map inLetters).all id = x.cps.toList.all inLetters := by rw [List.all_map]; rfl
            rw [z]
            exact q G sm
  | non => rw [is_non_str]; exact iteF (q H (Same.refl H))
  | bl b => rw [is_bl_str]; exact iteF (q H (Same.refl H))
  | int i => rw [is_int_str]; exact iteF (q H (Same.refl H))
  | lst h => rw [is_lst_str]; exact iteF (q H (Same.refl H))
  | dic h => rw [is_dic_str]; exact iteF (q H (Same.refl H))
  | obj h c => rw [is_obj_str]; exact iteF (q H (Same.refl H))
  | tup h few r => rw [is_tup_str]; exact iteF (q H (Same.refl H))
end
end K7

set_option Elab.async false
set_option linter.all false
set_option maxRecDepth 100000
set_option maxHeartbeats 1000000
namespace K7
open PySem PySem.Spec PyProof.Rows L2 Gd
theorem dec_v {a b : Int} : decide (V.int a = V.int b) = decide (a = b) := decide_eq_decide.mpr ⟨V.int.inj, congrArg V.int⟩
/-- whether each is below the next one -/
def adjL (l : List (List Int)) : List Bool := (l.zip (l.drop 1)).map fun p => HT.lexLt p.1 p.2
theorem adjL_all : ∀ l : List (List Int), (adjL l).all id = ascL l
  | [] => rfl
  | [x] => rfl
  | x :: y :: r => by
    have ih := adjL_all (y :: r)
    show ((HT.lexLt x y :: adjL (y :: r)).all id) = (HT.lexLt x y && ascL (y :: r))
    rw [List.all_cons, ih]
    rfl
theorem adjL_len (l : List (List Int)) : (adjL l).length = l.length - 1 := by
  unfold adjL
  rw [List.length_map, List.length_zip, List.length_drop]
  omega
theorem adjL_get {l : List (List Int)} {i : Nat} {x y : List Int} (hx : l[i]? = some x) (hy : l[i + 1]? = some y) : (adjL l)[i]? = some (HT.lexLt x y) := by
  unfold adjL
  have z : (l.zip (l.drop 1))[i]? = some (x, y) := List.getElem?_zip_eq_some.mpr ⟨hx, by rw [List.getElem?_drop, Nat.add_comm]; exact hy⟩
  rw [List.getElem?_map, z]
  rfl
theorem all_below_ints {K : PySem.W.Frag} {H : Hp} {n : Int} : ∀ {xs : List V} {js : List Jv}, JsAll K H xs js → js.all (belowJ n) = true → xs = (js.map valJ).map V.int
  | _, _, .nil, _ => rfl
  | _, _, .cons h r, e => by
    rw [List.all_cons, Bool.and_eq_true] at e
    obtain ⟨i, rfl⟩ := num_int (Bool.and_eq_true_iff.mp e.1).1
    rw [js_int h, all_below_ints r e.2]
    rfl
section
variable {P : Program} {w : World} {K : PySem.W.Frag} {mg : Str → Option Value} {base : Heap}
def spAsc (K : PySem.W.Frag) : Sp := fun vs H Q _ => ∃ (a : Addr) (xs : List V) (bs : List Bool), vs = [.ref a] ∧ SqT K H a xs ∧ xs.length ≤ 1000 ∧ bs.length = xs.length - 1 ∧ (∀ (i : Nat) (x y : V), xs[i]? = some x → xs[i + 1]? = some y → ∃ b, bs[i]? = some b ∧ Lt3 K H x y b) ∧ ∀ G, Same H G → Q (.bl (bs.all id)) G
theorem ok_is_ascending {f : Addr} {fd : FuncData} (F : Fun K "is_ascending" "is_ascending" s_is_ascending f fd) (B : Blt mg) : FnOk P w K mg base CX0 1 f fd ["values"] (spAsc K) := by
  refine F.ok sc_is_ascending (fun vs H Q E h => ?_) (fun cdv A outer s H vs Q E hr h => ?_)
  · obtain ⟨a, xs, bs, rfl, _⟩ := h
    rfl
  obtain ⟨a, xs, bs, rfl, hS, few, hb, hlt, q⟩ := h
  refine ⟨_, (pss_one (ps_ret (pe_callB (cr_all rfl) (by rfl) B.all_ (by decide +kernel) (pa_cons (pe_lc (own := [("one", 1), ("other", 2)]) (g := gTup K 2 (gCons (gName 1) (gCons (gName 2) gNil))) (tt := tYes) rfl sc_is_ascending.nd (RZ.pi_zipA (by rfl) B.zip_ (pa_cons (pv 0) (pa_cons (pe_slice sl_tupU (pv 0) (po_some pe_int) po_none) pa_nil))) (blkOk_by (own := [("one", 1), ("other", 2)]) (N := nm_is_ascending) (sc := defScope s_is_ascending) (by decide +kernel)) (fun _ _ _ _ _ => (pg_tup rfl (pgs_cons (pg_name (i := 1) sc_is_ascending.nd rfl (.inl rfl)) (pgs_cons (pg_name (i := 2) sc_is_ascending.nd rfl (.inl rfl)) pgs_nil)))) (fun _ _ _ _ _ => pts_nil) (fun _ _ _ _ _ => (pe_cmpR (r := rLt3 K) (op_lt3 (by exact hr.units0)) (pv 1) (pv 2) (nomark _)))) pa_nil)))), ?_⟩
  have ld : (xs.drop 1).length = xs.length - 1 := by rw [List.length_drop]
  refine ⟨.ref a, rfl, .ref a, rfl, 1, rfl, a, xs, rfl, hS, fun b H1 s1 hb1 => ?_⟩
  rw [cut_tail] at hb1
  refine ⟨a, b, _, _, rfl, .inr ⟨s1.tupS hS, hb1, fun D nD => ?_⟩⟩
  refine lc_zipG (n := xs.length - 1) (by omega) (Nat.le_of_eq ld.symm) (.inr (Nat.le_of_eq ld)) (Same H1) (fun i acc => acc = (bs.take i).map V.bl) (fun G z => ⟨z.tupS (s1.tupS hS), z.tupS hb1⟩)
    (fun G T o _ nT z => z.upG (z.free nT)) (Same.newG nD) rfl (fun i x y T G hx hy nx hT => ?_) (fun G acc sm eD ea => ?_)
  · obtain ⟨acc, sm, eD, ea⟩ := nx
    rw [List.getElem?_drop, Nat.add_comm] at hy
    obtain ⟨b', hb', l3⟩ := hlt i x y hx hy
    refine ⟨T, _, rfl, .inl (.inl hT), rfl, _, _, rfl, _, _, rfl, rfl, ?_⟩
    refine ⟨rfl, ?_⟩
    refine tyes ?_
    refine ⟨_, rfl, _, rfl, b', (l3.same s1).same sm, nx_put (fun G o z => z.upG nD) sm eD ?_ ?_⟩
    · rw [ea, List.length_map, List.length_take]
      omega
    · rw [ea, List.take_add_one, hb', List.map_append]
      rfl
  · refine ⟨D, bs, rfl, .inl (.inl ?_), q G (s1.trans sm)⟩
    rw [eD, ea, List.take_of_length_le (by omega)]
def spRow (K : PySem.W.Frag) : Sp := fun vs H Q _ => ∃ v j n p, vs = [.int n, .int p, v] ∧ Js K H v j ∧ ∀ G, Same H G → Q (.bl (rowJ n p j)) G
theorem ok_is_row {f : Addr} {fd : FuncData} (F : Fun K "is_row" "is_row" s_is_row f fd) (B : Blt mg) (C : Has P w K mg base 3 "is_below" ["value", "limit"] (spBelow K)) : FnOk P w K mg base CX0 4 f fd ["size", "places", "value"] (spRow K) := by
  obtain ⟨f1, fd1, G_is_below, g_is_below, k_is_below, b_is_below⟩ := C.ex
  refine F.ok sc_is_row (fun vs H Q E h => ?_) (fun cdv A outer s H vs Q E hr h => ?_)
  · obtain ⟨v, j, n, p, rfl, _⟩ := h
    rfl
  obtain ⟨v, j, n, p, rfl, hk, q⟩ := h
  refine ⟨_, (pss_one (ps_ret (pe_and (pe_callB call_isi (by rfl) B.isinstance_ (by decide +kernel) (pa_cons (pv 2) (pa_cons (pe_bltn (v := .ty "tuple") rfl B.tuple_ boot_tuple rfl) pa_nil))) (pe_and (pe_cmpR op_eq (pe_callB call_len_seq (by rfl) B.len_ (by decide +kernel) (pa_cons (pv 2) pa_nil)) (pv 1) (nomark _)) (pe_one (pe_callB (cr_all rfl) (by rfl) B.all_ (by decide +kernel) (pa_cons (pe_lc (own := [("part", 3)]) (g := gName 3) (tt := tYes) rfl sc_is_row.nd (pi_tup (pv 2)) (blkOk_by (own := [("part", 3)]) (N := nm_is_row) (sc := defScope s_is_row) (by decide +kernel)) (fun _ _ _ _ _ => (pg_name (i := 3) sc_is_row.nd rfl (.inl rfl))) (fun _ _ _ _ _ => pts_nil) (fun _ _ _ _ _ => (pe_call G_is_below (hr.mono (by decide)) (by rfl) g_is_below k_is_below b_is_below .nil pass0 (pa_cons (pv 3) (pa_cons (pv 0) pa_nil))))) pa_nil))))))), ?_⟩
  refine ⟨v, rfl, hk.isi (.inr (.inr (.inr (.inl rfl)))) ⟨_, rfl, ?_⟩⟩
  have e : rowJ n p j = (j.is "tuple" && (decide (((itemsJ j).length : Int) = p) && (itemsJ j).all (belowJ n))) := rfl
  rw [e] at q
  cases hk with
  | @tup a xs js h few r =>
    rw [is_tup_tuple, Bool.true_and] at q
    rw [is_tup_tuple]
    have len : ((itemsJ (.tup js)).length : Int) = (xs.length : Int) := congrArg Int.ofNat r.len.symm
    rw [len] at q
    refine iteT ⟨.ref a, rfl, a, xs, rfl, .inr h, .int p, rfl, rfl, _, rfl, ?_⟩
    rw [dec_v]
    cases h1 : decide ((xs.length : Int) = p) with
    | false =>
      rw [h1, Bool.false_and] at q
      exact iteF (q H (Same.refl H))
    | true =>
      rw [h1, Bool.true_and] at q
      refine iteT ⟨.ref a, rfl, a, rfl, ⟨xs, h⟩, fun D nD => ?_⟩
      refine lc_tupG (xs := xs) (Same H) (fun i acc => acc = ((js.map (belowJ n)).take i).map V.bl) (fun G z => z.tupS h) (Same.newG nD) rfl (fun i v G hi nx hv => ?_) (fun G acc sm eD ea => ?_)
      · obtain ⟨acc, sm, eD, ea⟩ := nx
        obtain ⟨j', hj, sj⟩ := r.get hv
        refine ⟨rfl, tyes ⟨_, rfl, _, rfl, v, j', n, rfl, sj.same sm, nx_put (fun G o z => z.upG nD) sm eD ?_ ?_⟩⟩
        · rw [ea, List.length_map, List.length_take, List.length_map]
          have := r.len
          omega
        · rw [ea, List.take_add_one, List.getElem?_map, hj, List.map_append]
          rfl
      · refine ⟨D, js.map (belowJ n), rfl, .inl (.inl ?_), ?_⟩
        · rw [eD, ea, List.take_of_length_le (by rw [List.length_map]; exact Nat.le_of_eq r.len.symm)]
        · have z : (js.map (belowJ n)).all id = (itemsJ (.tup js)).all (belowJ n) := by rw [List.all_map]; rfl
          rw [z]
          exact q G sm
  | non => rw [is_non_tuple] at q ⊢; exact iteF (q H (Same.refl H))
  | bl b => rw [is_bl_tuple] at q ⊢; exact iteF (q H (Same.refl H))
  | int i => rw [is_int_tuple] at q ⊢; exact iteF (q H (Same.refl H))
  | str x few => rw [is_str_tuple] at q ⊢; exact iteF (q H (Same.refl H))
  | lst h => rw [is_lst_tuple] at q ⊢; exact iteF (q H (Same.refl H))
  | dic h => rw [is_dic_tuple] at q ⊢; exact iteF (q H (Same.refl H))
  | obj h c => rw [is_obj_tuple] at q ⊢; exact iteF (q H (Same.refl H))
def spRows (K : PySem.W.Frag) : Sp := fun vs H Q _ => ∃ v j n p, vs = [.int n, .int p, v] ∧ Js K H v j ∧ ∀ G, Same H G → Q (.bl (rowsJ n p j)) G
theorem row_ints {H : Hp} {n p : Int} {v : V} {j : Jv} (h : Js K H v j) (e : rowJ n p j = true) : ∃ a, v = .ref a ∧ SqT K H a ((intsJ j).map V.int) := by
  have e : (j.is "tuple" && (decide (((itemsJ j).length : Int) = p) && (itemsJ j).all (belowJ n))) = true := e
  rw [Bool.and_eq_true, Bool.and_eq_true] at e
  obtain ⟨e1, _, e2⟩ := e
  cases h with
  | @tup a xs js h few r =>
    have z := all_below_ints r e2
    exact ⟨a, rfl, by
      show SqT K H a ((js.map valJ).map V.int)
      rw [← z]
      exact h⟩
  | non => rw [is_non_tuple] at e1; cases e1
  | bl b => rw [is_bl_tuple] at e1; cases e1
  | int i => rw [is_int_tuple] at e1; cases e1
  | str x few => rw [is_str_tuple] at e1; cases e1
  | lst h => rw [is_lst_tuple] at e1; cases e1
  | dic h => rw [is_dic_tuple] at e1; cases e1
  | obj h c => rw [is_obj_tuple] at e1; cases e1
theorem ok_is_rows {f : Addr} {fd : FuncData} (F : Fun K "is_rows" "is_rows" s_is_rows f fd) (B : Blt mg) (C : Has P w K mg base 4 "is_row" ["size", "places", "value"] (spRow K)) (C2 : Has P w K mg base 1 "is_ascending" ["values"] (spAsc K)) : FnOk P w K mg base CX0 5 f fd ["size", "places", "value"] (spRows K) := by
  obtain ⟨f1, fd1, G_is_row, g_is_row, k_is_row, b_is_row⟩ := C.ex
  obtain ⟨f2, fd2, G_is_ascending, g_is_ascending, k_is_ascending, b_is_ascending⟩ := C2.ex
  refine F.ok sc_is_rows (fun vs H Q E h => ?_) (fun cdv A outer s H vs Q E hr h => ?_)
  · obtain ⟨v, j, n, p, rfl, _⟩ := h
    rfl
  obtain ⟨v, j, n, p, rfl, hk, q⟩ := h
  refine ⟨_, (pss_one (ps_ret (pe_and (pe_callB call_isi (by rfl) B.isinstance_ (by decide +kernel) (pa_cons (pv 2) (pa_cons (pe_bltn (v := .ty "tuple") rfl B.tuple_ boot_tuple rfl) pa_nil))) (pe_and (pe_callB (cr_all rfl) (by rfl) B.all_ (by decide +kernel) (pa_cons (pe_lc (own := [("row", 3)]) (g := gName 3) (tt := tYes) rfl sc_is_rows.nd (pi_tup (pv 2)) (blkOk_by (own := [("row", 3)]) (N := nm_is_rows) (sc := defScope s_is_rows) (by decide +kernel)) (fun _ _ _ _ _ => (pg_name (i := 3) sc_is_rows.nd rfl (.inl rfl))) (fun _ _ _ _ _ => pts_nil) (fun _ _ _ _ _ => (pe_call G_is_row (hr.mono (by decide)) (by rfl) g_is_row k_is_row b_is_row .nil pass0 (pa_cons (pv 0) (pa_cons (pv 1) (pa_cons (pv 3) pa_nil)))))) pa_nil)) (pe_one (pe_call G_is_ascending (hr.mono (by decide)) (by rfl) g_is_ascending k_is_ascending b_is_ascending .nil pass0 (pa_cons (pv 2) pa_nil))))))), ?_⟩
  refine ⟨v, rfl, hk.isi (.inr (.inr (.inr (.inl rfl)))) ⟨_, rfl, ?_⟩⟩
  have e : rowsJ n p j = (j.is "tuple" && ((itemsJ j).all (rowJ n p) && ascL ((itemsJ j).map intsJ))) := rfl
  rw [e] at q
  cases hk with
  | @tup a xs js h few r =>
    rw [is_tup_tuple, Bool.true_and] at q
    rw [is_tup_tuple]
    refine iteT ⟨.ref a, rfl, a, rfl, ⟨xs, h⟩, fun D nD => ?_⟩
    refine lc_tupG (xs := xs) (Same H) (fun i acc => acc = ((js.map (rowJ n p)).take i).map V.bl) (fun G z => z.tupS h) (Same.newG nD) rfl (fun i v G hi nx hv => ?_) (fun G acc sm eD ea => ?_)
    · obtain ⟨acc, sm, eD, ea⟩ := nx
      obtain ⟨j', hj, sj⟩ := r.get hv
      refine ⟨rfl, tyes ⟨_, rfl, _, rfl, _, rfl, v, j', n, p, rfl, sj.same sm, fun G2 s2 => nx_put (fun G o z => z.upG nD) (sm.trans s2) (s2 _ _ eD) ?_ ?_⟩⟩
      · rw [ea, List.length_map, List.length_take, List.length_map]
        have := r.len
        omega
      · rw [ea, List.take_add_one, List.getElem?_map, hj, List.map_append]
        rfl
    · refine ⟨D, js.map (rowJ n p), rfl, .inl (.inl ?_), _, rfl, ?_⟩
      · rw [eD, ea, List.take_of_length_le (by rw [List.length_map]; exact Nat.le_of_eq r.len.symm)]
      have z : (js.map (rowJ n p)).all id = (itemsJ (.tup js)).all (rowJ n p) := by rw [List.all_map]; rfl
      rw [z]
      cases h1 : (itemsJ (.tup js)).all (rowJ n p) with
      | false =>
        rw [h1, Bool.false_and] at q
        exact iteF (q G sm)
      | true =>
        rw [h1, Bool.true_and] at q
        refine iteT ⟨.ref a, rfl, a, xs, adjL (js.map intsJ), rfl, sm.tupS h, few, ?_, fun i x y hx hy => ?_, fun G2 s2 => ?_⟩
        · rw [adjL_len, List.length_map, r.len]
        · obtain ⟨j1, hj1, sj1⟩ := r.get hx
          obtain ⟨j2, hj2, sj2⟩ := r.get hy
          have all := List.all_eq_true.mp h1
          obtain ⟨a1, rfl, t1⟩ := row_ints sj1 (all j1 (List.mem_of_getElem? hj1))
          obtain ⟨a2, rfl, t2⟩ := row_ints sj2 (all j2 (List.mem_of_getElem? hj2))
          exact ⟨_, adjL_get (by rw [List.getElem?_map, hj1]; rfl) (by rw [List.getElem?_map, hj2]; rfl), .tup (sm.tupS t1) (sm.tupS t2)⟩
        · rw [adjL_all]
          exact q G2 (sm.trans s2)
  | non => rw [is_non_tuple] at q ⊢; exact iteF (q H (Same.refl H))
  | bl b => rw [is_bl_tuple] at q ⊢; exact iteF (q H (Same.refl H))
  | int i => rw [is_int_tuple] at q ⊢; exact iteF (q H (Same.refl H))
  | str x few => rw [is_str_tuple] at q ⊢; exact iteF (q H (Same.refl H))
  | lst h => rw [is_lst_tuple] at q ⊢; exact iteF (q H (Same.refl H))
  | dic h => rw [is_dic_tuple] at q ⊢; exact iteF (q H (Same.refl H))
  | obj h c => rw [is_obj_tuple] at q ⊢; exact iteF (q H (Same.refl H))
theorem JsAll.two' {K : PySem.W.Frag} {H : Hp} {xs : List V} {js : List Jv} (r : JsAll K H xs js) (h : xs.length = 2) : ∃ x0 x1 j0 j1, xs = [x0, x1] ∧ js = [j0, j1] ∧ Js K H x0 j0 ∧ Js K H x1 j1 := by
  cases r with
  | nil => exact absurd h (by simp)
  | @cons x0 xs1 j0 js1 r0 rs => cases rs with
    | nil => exact absurd h (by simp)
    | @cons x1 xs2 j1 js2 r1 rs2 => cases rs2 with
      | nil => exact ⟨x0, x1, j0, j1, rfl, rfl, r0, r1⟩
      | cons _ _ => exact absurd h (by simp only [List.length_cons]; omega)
def tieJ (n : Int) (j : Jv) : Bool := j.is "tuple" && (decide (((itemsJ j).length : Int) = 2) && (shortJ ((itemsJ j).getD 0 .non) && ((decide (1 ≤ valJ ((itemsJ j).getD 0 .non)) && decide (valJ ((itemsJ j).getD 0 .non) ≤ 3)) && rowsJ n (valJ ((itemsJ j).getD 0 .non)) ((itemsJ j).getD 1 .non))))
def spTie (K : PySem.W.Frag) : Sp := fun vs H Q _ => ∃ v j n, vs = [.int n, v] ∧ Js K H v j ∧ ∀ G, Same H G → Q (.bl (tieJ n j)) G
theorem ok_is_tie {f : Addr} {fd : FuncData} (F : Fun K "is_tie" "is_tie" s_is_tie f fd) (B : Blt mg) (Cc : Cst mg) (C : Has P w K mg base 1 "is_integer" ["value"] (spInt K)) (C2 : Has P w K mg base 5 "is_rows" ["size", "places", "value"] (spRows K)) : FnOk P w K mg base CX0 6 f fd ["size", "value"] (spTie K) := by
  obtain ⟨t1, g_MAX_PLACES⟩ := Cc.places
  obtain ⟨f1, fd1, G_is_integer, g_is_integer, k_is_integer, b_is_integer⟩ := C.ex
  obtain ⟨f2, fd2, G_is_rows, g_is_rows, k_is_rows, b_is_rows⟩ := C2.ex
  refine F.ok sc_is_tie (fun vs H Q E h => ?_) (fun cdv A outer s H vs Q E hr h => ?_)
  · obtain ⟨v, j, n, rfl, _⟩ := h
    rfl
  obtain ⟨v, j, n, rfl, hk, q⟩ := h
  refine ⟨_, (pss_one (ps_ret (pe_and (pe_callB call_isi (by rfl) B.isinstance_ (by decide +kernel) (pa_cons (pv 1) (pa_cons (pe_bltn (v := .ty "tuple") rfl B.tuple_ boot_tuple rfl) pa_nil))) (pe_and (pe_cmpR op_eq (pe_callB call_len_seq (by rfl) B.len_ (by decide +kernel) (pa_cons (pv 1) pa_nil)) pe_int (nomark _)) (pe_and (pe_call G_is_integer (hr.mono (by decide)) (by rfl) g_is_integer k_is_integer b_is_integer .nil pass0 (pa_cons (pe_ix ix_tup (pv 1) pe_int (fun _ _ => rfl)) pa_nil)) (pe_and (pe_chain op_le op_le pe_int (pe_ix ix_tup (pv 1) pe_int (fun _ _ => rfl)) (pe_glob (v := .int 3) rfl g_MAX_PLACES ⟨_, rfl⟩)) (pe_one (pe_call G_is_rows (hr.mono (by decide)) (by rfl) g_is_rows k_is_rows b_is_rows .nil pass0 (pa_cons (pv 0) (pa_cons (pe_ix ix_tup (pv 1) pe_int (fun _ _ => rfl)) (pa_cons (pe_ix ix_tup (pv 1) pe_int (fun _ _ => rfl)) pa_nil))))))))))), ?_⟩
  refine ⟨v, rfl, hk.isi (.inr (.inr (.inr (.inl rfl)))) ⟨_, rfl, ?_⟩⟩
  unfold tieJ at q
  cases hk with
  | @tup a xs js h few r =>
    rw [is_tup_tuple, Bool.true_and] at q
    rw [is_tup_tuple]
    have len : ((itemsJ (.tup js)).length : Int) = (xs.length : Int) := congrArg Int.ofNat r.len.symm
    rw [len] at q
    refine iteT ⟨.ref a, rfl, a, xs, rfl, .inr h, rfl, _, rfl, ?_⟩
    rw [dec_v]
    cases h1 : decide ((xs.length : Int) = 2) with
    | false =>
      rw [h1, Bool.false_and] at q
      exact iteF (q H (Same.refl H))
    | true =>
      rw [h1, Bool.true_and] at q
      have h2 : xs.length = 2 := by
        have z := of_decide_eq_true h1
        omega
      refine iteT ?_
      obtain ⟨x0, x1, j0, j1, ex, ej, r0, r1⟩ := JsAll.two' r h2
      subst ex ej
      have q : ∀ G, Same H G → Q (.bl (shortJ j0 && ((decide (1 ≤ valJ j0) && decide (valJ j0 ≤ 3)) && rowsJ n (valJ j0) j1))) G := q
      refine ⟨.ref a, rfl, a, _, _, x0, rfl, rfl, h, atI_nat (j := 0) rfl, x0, j0, rfl, r0, _, rfl, ?_⟩
      cases h3 : shortJ j0 with
      | false =>
        rw [h3, Bool.false_and] at q
        exact iteF (q H (Same.refl H))
      | true =>
        obtain ⟨i, rfl⟩ := short_int h3
        have ev := js_int r0
        subst ev
        rw [h3, Bool.true_and] at q
        have q : ∀ G, Same H G → Q (.bl ((decide (1 ≤ i) && decide (i ≤ 3)) && rowsJ n i j1)) G := q
        refine iteT ⟨.ref a, rfl, a, _, _, .int i, rfl, rfl, h, atI_nat (j := 0) rfl, 1, i, rfl, rfl, _, rfl, ?_⟩
        cases h4 : decide (1 ≤ i) with
        | false =>
          rw [h4, Bool.false_and, Bool.false_and] at q
          exact iteF ⟨_, rfl, iteF (q H (Same.refl H))⟩
        | true =>
          rw [h4, Bool.true_and] at q
          refine iteT ⟨_, _, rfl, rfl, _, rfl, ?_⟩
          cases h5 : decide (i ≤ 3) with
          | false =>
            rw [h5, Bool.false_and] at q
            exact iteF (q H (Same.refl H))
          | true =>
            rw [h5, Bool.true_and] at q
            exact iteT ⟨_, rfl, .ref a, rfl, a, _, _, .int i, rfl, rfl, h, atI_nat (j := 0) rfl, .ref a, rfl, a, _, _, x1, rfl, rfl, h, atI_nat (j := 1) rfl, x1, j1, n, i, rfl, r1, q⟩
  | non => rw [is_non_tuple] at q ⊢; exact iteF (q H (Same.refl H))
  | bl b => rw [is_bl_tuple] at q ⊢; exact iteF (q H (Same.refl H))
  | int i => rw [is_int_tuple] at q ⊢; exact iteF (q H (Same.refl H))
  | str x few => rw [is_str_tuple] at q ⊢; exact iteF (q H (Same.refl H))
  | lst h => rw [is_lst_tuple] at q ⊢; exact iteF (q H (Same.refl H))
  | dic h => rw [is_dic_tuple] at q ⊢; exact iteF (q H (Same.refl H))
  | obj h c => rw [is_obj_tuple] at q ⊢; exact iteF (q H (Same.refl H))
end
end K7

set_option Elab.async false
set_option linter.all false
set_option maxRecDepth 100000
set_option maxHeartbeats 1000000
/-! Lf: comprehensions over the items of a dict; is_ties on judged values. -/
namespace Gd
open PySem PySem.Spec PyProof.Rows L2
/-- over the items of a dict that is locked -/
theorem lc_itemsG {K : PySem.W.Frag} {d : Addr} {o : Obj} {kvs : List (Key × V)} {g : TG} {tt : TT} {te : TE} {vs : List Nat} {σ : L2.St} {H1 : Hp} {D : Addr} {Qd : Hp → Prop} (Ok : Hp → Prop) (Acc : Nat → List V → Prop) (hS : ∀ H, Ok H → H d = some (.frz o (.dK kvs)))
    (hup : ∀ H T o, T ≠ D → H T = none → Ok H → Ok (upd H T o)) (h0 : Ok (upd H1 D (.lst []))) (z0 : Acc 0 [])
    (hs : ∀ i k v T H, kvs[i]? = some (k, v) → Nx Ok D Acc i H → H T = some (.tup [kV k, v]) → g (.ref T) (wipe σ vs) H fun σ2 H2 => wipe σ2 vs = wipe σ vs ∧ tt σ2 H2 fun b H3 =>
      if b = true then te σ2 H3 fun y H4 => ∃ acc, H4 D = some (.lst acc) ∧ acc.length < sizeLine ∧ Nx Ok D Acc (i + 1) (upd H4 D (.lst (acc ++ [y]))) else Nx Ok D Acc (i + 1) H3)
    (hd : ∀ H acc, Ok H → H D = some (.lst acc) → Acc kvs.length acc → Qd H) :
    ∃ W : Nat → Nat → Hp → Prop, (∃ m, W 0 m (upd H1 D (.lst []))) ∧ ∀ i m H, W i m H →
      ((Iti d o kvs).stop i H ∧ Qd H) ∨ ((Iti d o kvs).go i H ∧ ∃ N : Hp → Prop, (∀ H', N H' → ∃ m', m' < m ∧ W (i + 1) m' H') ∧ ∀ v H', (Iti d o kvs).yld i H v H' → g v (wipe σ vs) H' fun σ2 H2 => wipe σ2 vs = wipe σ vs ∧ tt σ2 H2 fun b H3 =>
        if b = true then te σ2 H3 fun y H4 => ∃ acc, H4 D = some (.lst acc) ∧ acc.length < sizeLine ∧ N (upd H4 D (.lst (acc ++ [y]))) else N H3) :=
  lc_any (J := Iti d o kvs) (n := kvs.length) Ok Acc (fun i v H => ∃ k x T, kvs[i]? = some (k, x) ∧ v = .ref T ∧ H T = some (.tup [kV k, x])) h0 z0
    (fun i H hi ⟨acc, ok, _⟩ => ⟨hS H ok, hi⟩)
    (fun H ⟨acc, ok, _⟩ => ⟨hS H ok, Nat.le_refl _⟩)
    (fun i H v H' hi nx ⟨T, k, x, e0, e1, nT, e2⟩ => by
      subst e1 e2
      obtain ⟨acc, ok, e, r⟩ := nx
      have ne : D ≠ T := ne_of_none e nT
      exact ⟨⟨acc, hup H T _ ne.symm nT ok, by rw [upd_ne ne]; exact e, r⟩, k, x, T, e0, rfl, upd_same⟩)
    (fun i v H hi nx ⟨k, x, T, hx, e, hT⟩ => by
      subst e
      exact hs i k x T H hx nx hT) hd
/-- what a lock leaves when it is lifted -/
theorem same_unlock {H H' : Hp} {d : Addr} {u w : HO} (hd : H d = some u) (s : Same (upd H d w) H') : Same H (upd H' d u) := fun b x e => by
  by_cases q : b = d
  · subst q
    rw [hd] at e
    cases e
    exact upd_same
  · rw [upd_ne q]
    exact s b x (by rw [upd_ne q]; exact e)
end Gd
namespace K7
open PySem PySem.Spec PyProof.Rows L2 Gd
section
variable {P : Program} {w : World} {K : PySem.W.Frag} {mg : Str → Option Value} {base : Heap}
def tiesJ (n : Int) (ps : List (Jv × Jv)) : Bool := decide ((ps.length : Int) ≤ 8) && ps.all fun p => nameJ p.1 && tieJ n p.2
/-- a dict as a judge sees it, also while it is locked -/
def DictJ (K : PySem.W.Frag) (H : Hp) (d : Addr) (ps : List (Jv × Jv)) : Prop := ∃ kvs, H d = some (.dK kvs) ∧ kvs.length = ps.length ∧ kvs.length ≤ 1000 ∧ ∀ (i : Nat) (k : Key) (v : V), kvs[i]? = some (k, v) → ∃ a b, ps[i]? = some (a, b) ∧ ∀ o, Js K (upd H d (.frz o (.dK kvs))) (kV k) a ∧ Js K (upd H d (.frz o (.dK kvs))) v b
def spTies (K : PySem.W.Frag) : Sp := fun vs H Q _ => ∃ v n, vs = [.int n, v] ∧ ((∃ j, Js K H v j ∧ j.is "dict" = false ∧ ∀ G, Same H G → Q (.bl false) G) ∨ ∃ d ps, v = .ref d ∧ DictJ K H d ps ∧ ∀ G, Same H G → Q (.bl (tiesJ n ps)) G)
theorem ok_is_ties {f : Addr} {fd : FuncData} (F : Fun K "is_ties" "is_ties" s_is_ties f fd) (B : Blt mg) (Cc : Cst mg) (C : Has P w K mg base 1 "is_name" ["value"] (spName K)) (C2 : Has P w K mg base 6 "is_tie" ["size", "value"] (spTie K)) : FnOk P w K mg base CX0 7 f fd ["size", "value"] (spTies K) := by
  obtain ⟨t1, g_MAX_TIES⟩ := Cc.ties
  obtain ⟨f1, fd1, G_is_name, g_is_name, k_is_name, b_is_name⟩ := C.ex
  obtain ⟨f2, fd2, G_is_tie, g_is_tie, k_is_tie, b_is_tie⟩ := C2.ex
  refine F.ok sc_is_ties (fun vs H Q E h => ?_) (fun cdv A outer s H vs Q E hr h => ?_)
  · obtain ⟨v, n, rfl, _⟩ := h
    rfl
  obtain ⟨v, n, rfl, h⟩ := h
  refine ⟨_, (pss_one (ps_ret (pe_and (pe_callB call_isi (by rfl) B.isinstance_ (by decide +kernel) (pa_cons (pv 1) (pa_cons (pe_bltn (v := .ty "dict") rfl B.dict_ boot_dict rfl) pa_nil))) (pe_and (pe_cmpR op_le (pe_callB call_lenD (by rfl) B.len_ (by decide +kernel) (pa_cons (pv 1) pa_nil)) (pe_glob (v := .int 8) rfl g_MAX_TIES ⟨_, rfl⟩) (nomark _)) (pe_one (pe_callB (cr_all rfl) (by rfl) B.all_ (by decide +kernel) (pa_cons (pe_lock (pe_lc (own := [("name", 2), ("tie", 3)]) (g := gTup K 2 (gCons (gName 2) (gCons (gName 3) gNil))) (tt := tYes) rfl sc_is_ties.nd (pi_items (pv 1)) (blkOk_by (own := [("name", 2), ("tie", 3)]) (N := nm_is_ties) (sc := defScope s_is_ties) (by decide +kernel)) (fun _ _ _ _ _ => (pg_tup rfl (pgs_cons (pg_name (i := 2) sc_is_ties.nd rfl (.inl rfl)) (pgs_cons (pg_name (i := 3) sc_is_ties.nd rfl (.inl rfl)) pgs_nil)))) (fun _ _ _ _ _ => pts_nil) (fun _ _ _ _ _ => (pe_and (pe_call G_is_name (hr.mono (by decide)) (by rfl) g_is_name k_is_name b_is_name .nil pass0 (pa_cons (pv 2) pa_nil)) (pe_one (pe_call G_is_tie (hr.mono (by decide)) (by rfl) g_is_tie k_is_tie b_is_tie .nil pass0 (pa_cons (pv 0) (pa_cons (pv 3) pa_nil)))))))) pa_nil))))))), ?_⟩
  rcases h with ⟨j, hk, nd, q⟩ | ⟨d, ps, rfl, hk, q⟩
  · refine ⟨v, rfl, hk.isi (.inr (.inr (.inr (.inr rfl)))) ⟨_, rfl, ?_⟩⟩
    rw [nd]
    exact iteF (q H (Same.refl H))
  obtain ⟨kvs, hd, len, few, hj⟩ := hk
  refine ⟨.ref d, rfl, (Js.dic hd).isi (.inr (.inr (.inr (.inr rfl)))) ⟨_, rfl, ?_⟩⟩
  rw [is_dic_dict]
  refine iteT ⟨.ref d, rfl, d, kvs, rfl, hd, (kvs.length : Int), 8, rfl, rfl, _, rfl, ?_⟩
  have e : tiesJ n ps = (decide ((kvs.length : Int) ≤ 8) && (ps.map fun p => nameJ p.1 && tieJ n p.2).all id) := by
    unfold tiesJ
    rw [len, List.all_map]
    rfl
  rw [e] at q
  cases h1 : decide ((kvs.length : Int) ≤ 8) with
  | false =>
    rw [h1, Bool.false_and] at q
    exact iteF (q H (Same.refl H))
  | true =>
    rw [h1, Bool.true_and] at q
    refine iteT ⟨d, _, hd, trivial, fun od => ⟨.ref d, rfl, d, od, kvs, rfl, upd_same, fun D nD => ?_⟩⟩
    refine lc_itemsG (K := K) (Same (upd H d (.frz od (.dK kvs)))) (fun i acc => acc = ((ps.map fun p => nameJ p.1 && tieJ n p.2).take i).map V.bl) (fun G z => z _ _ upd_same) (fun G T o _ nT z => z.upG (z.free nT)) (Same.newG nD) rfl (fun i k v T G hi nx hT => ?_) (fun G acc sm eD ea => ?_)
    · obtain ⟨acc, sm, eD, ea⟩ := nx
      obtain ⟨a, b, hp, hab⟩ := hj i k v hi
      obtain ⟨ja, jb⟩ := hab od
      refine ⟨T, _, rfl, .inl (.inl hT), rfl, _, _, rfl, _, _, rfl, rfl, ?_⟩
      refine ⟨rfl, tyes ?_⟩
      refine ⟨kV k, rfl, kV k, a, rfl, ja.same sm, fun G2 s2 => ⟨_, rfl, ?_⟩⟩
      have gets : (ps.map fun p => nameJ p.1 && tieJ n p.2)[i]? = some (nameJ a && tieJ n b) := by rw [List.getElem?_map, hp]; rfl
      have fin : ∀ (c : Bool) (G3 : Hp), Same G2 G3 → c = (nameJ a && tieJ n b) → G3 D = some (.lst acc) → ∃ acc, G3 D = some (.lst acc) ∧ acc.length < sizeLine ∧ Nx (Same (upd H d (.frz od (.dK kvs)))) D (fun i acc => acc = ((ps.map fun p => nameJ p.1 && tieJ n p.2).take i).map V.bl) (i + 1) (upd G3 D (.lst (acc ++ [V.bl c]))) := by
        intro c G3 s3 ec eD3
        refine nx_put (fun G o z => z.upG nD) ((sm.trans s2).trans s3) eD3 ?_ ?_
        · rw [ea, List.length_map, List.length_take, List.length_map]
          omega
        · rw [ea, List.take_add_one, gets, List.map_append, ec]
          rfl
      cases h2 : nameJ a with
      | false =>
        exact iteF (fin false G2 (Same.refl G2) (by rw [h2, Bool.false_and]) (s2 _ _ eD))
      | true =>
        refine iteT ⟨_, rfl, v, rfl, v, b, n, rfl, jb.same (sm.trans s2), fun G3 s3 => ?_⟩
        exact fin (tieJ n b) G3 s3 (by rw [h2, Bool.true_and]) (s3 _ _ (s2 _ _ eD))
    · refine ⟨sm _ _ upd_same, D, _, rfl, .inl (.inl ?_), q _ (same_unlock hd sm)⟩
      have ne : D ≠ d := fun e => by
        subst e
        rw [upd_same] at nD
        exact nomatch nD
      rw [upd_ne ne, eD, ea, List.take_of_length_le (by rw [List.length_map]; exact Nat.le_of_eq len.symm)]
end
end K7

set_option Elab.async false
set_option linter.all false
set_option maxRecDepth 100000
set_option maxHeartbeats 1000000
/-! Lh: a text times an int; comprehensions over a list that stays; _law_spare. -/
namespace Gd
open PySem PySem.Spec PyProof.Rows L2
def rMulS : R2 := fun x y H Q => ∃ (z : Str) (n : Int) (r : Str), x = .str z ∧ y = .int n ∧ MulOk z n ∧ Txt.mul z n = r ∧ Q (.str r) H
theorem op_mulS {X : Cx} : OpR X (binaryOp .Mult) rMulS := by
  intro pins s σ H x y v u Q I rx ry h
  obtain ⟨z, n, r, rfl, rfl, ok, e, q⟩ := h
  obtain ⟨t, rfl⟩ := rx
  obtain ⟨t', rfl⟩ := ry
  subst e
  exact SB.mul ok fun t2 k => ⟨.str (Txt.mul z n), H, I.kept (t' := k) (fun _ _ q => q), ⟨t2, rfl⟩, q⟩
theorem lc_lstG {K : PySem.W.Frag} {a : Addr} {xs : List V} {g : TG} {tt : TT} {te : TE} {vs : List Nat} {σ : L2.St} {H1 : Hp} {D : Addr} {Qd : Hp → Prop} (Ok : Hp → Prop) (Acc : Nat → List V → Prop) (hS : ∀ H, Ok H → SqL K H a xs) (h0 : Ok (upd H1 D (.lst []))) (z0 : Acc 0 [])
    (hs : ∀ i v H, i < xs.length → Nx Ok D Acc i H → xs[i]? = some v → g v (wipe σ vs) H fun σ2 H2 => wipe σ2 vs = wipe σ vs ∧ tt σ2 H2 fun b H3 =>
      if b = true then te σ2 H3 fun y H4 => ∃ acc, H4 D = some (.lst acc) ∧ acc.length < sizeLine ∧ Nx Ok D Acc (i + 1) (upd H4 D (.lst (acc ++ [y]))) else Nx Ok D Acc (i + 1) H3)
    (hd : ∀ H acc, Ok H → H D = some (.lst acc) → Acc xs.length acc → Qd H) :
    ∃ W : Nat → Nat → Hp → Prop, (∃ m, W 0 m (upd H1 D (.lst []))) ∧ ∀ i m H, W i m H →
      ((Itl K a).stop i H ∧ Qd H) ∨ ((Itl K a).go i H ∧ ∃ N : Hp → Prop, (∀ H', N H' → ∃ m', m' < m ∧ W (i + 1) m' H') ∧ ∀ x H', (Itl K a).yld i H x H' → g x (wipe σ vs) H' fun σ2 H2 => wipe σ2 vs = wipe σ vs ∧ tt σ2 H2 fun b H3 =>
        if b = true then te σ2 H3 fun y H4 => ∃ acc, H4 D = some (.lst acc) ∧ acc.length < sizeLine ∧ N (upd H4 D (.lst (acc ++ [y]))) else N H3) :=
  lc_any (J := Itl K a) (n := xs.length) Ok Acc (fun i v _ => xs[i]? = some v) h0 z0 (fun i H hi ⟨acc, o, _⟩ => ⟨xs, xs[i], hS H o, List.getElem?_eq_getElem hi⟩)
    (fun H ⟨acc, o, _⟩ => ⟨xs, hS H o, Nat.le_refl _⟩) (fun i H v H' hi nx ⟨e, f⟩ => by
      subst e
      obtain ⟨acc, o, r⟩ := nx
      exact ⟨⟨acc, o, r⟩, f xs (hS _ o)⟩) hs hd
theorem nodup_le : ∀ {l ns : List Str}, l.Nodup → (∀ c ∈ l, c ∈ ns) → l.length ≤ ns.length
  | [], _, _, _ => Nat.zero_le _
  | c :: l, ns, nd, h => by
    obtain ⟨n1, n2⟩ := List.nodup_cons.mp nd
    have h1 : c ∈ ns := h c List.mem_cons_self
    have ih := nodup_le (l := l) (ns := ns.erase c) n2 fun d hd => (List.mem_erase_of_ne (fun e => n1 (by rw [← e]; exact hd))).mpr (h d (List.mem_cons_of_mem _ hd))
    rw [List.length_erase_of_mem h1] at ih
    have : 0 < ns.length := List.length_pos_of_mem h1
    rw [List.length_cons]
    omega
theorem in_strs (c : Str) : ∀ l : List Str, inV (.str c) (l.map V.str) = decide (c ∈ l)
  | [] => rfl
  | m :: l => by
    have ih := in_strs c l
    unfold inV at ih ⊢
    rw [List.map_cons, List.any_cons, ih]
    have e : eqV (.str m) (.str c) = decide (c = m) := by
      show (m == c) = decide (c = m)
      by_cases h : c = m
      · subst h
        simp
      · rw [decide_eq_false h]
        exact beq_eq_false_iff_ne.mpr fun z => h z.symm
    rw [e, ← Bool.decide_or]
    exact decide_eq_decide.mpr List.mem_cons.symm
end Gd
namespace K7
open PySem PySem.Spec PyProof.Rows L2 Gd
section
variable {P : Program} {w : World} {K : PySem.W.Frag} {mg : Str → Option Value} {base : Heap}
def cands : List Str := ["zzzzzzzz", "zzzzzzz", "yyyyyyyy", "yyyyyyy", "xxxxxxxx", "wwwwwwww", "vvvvvvvv", "uuuuuuuu", "tttttttt"]
/-- the first of the spare names that is none of these -/
def spareOf (ns : List Str) : Str := (cands.filter fun c => !decide (c ∈ ns)).headD "z"
theorem spare_head {ns : List Str} (few : ns.length ≤ 8) : ∃ r, cands.filter (fun c => !decide (c ∈ ns)) = spareOf ns :: r := by
  unfold spareOf
  cases h : cands.filter (fun c => !decide (c ∈ ns)) with
  | cons c r => exact ⟨r, rfl⟩
  | nil =>
    have z := nodup_le (l := cands) (ns := ns) (by decide +kernel) fun c hc => by
      have n := List.filter_eq_nil_iff.mp h c hc
      simpa using n
    have e : cands.length = 9 := rfl
    omega
theorem spare_not {ns : List Str} (few : ns.length ≤ 8) : spareOf ns ∉ ns ∧ spareOf ns ∈ cands := by
  obtain ⟨r, e⟩ := spare_head few
  have m : spareOf ns ∈ cands.filter fun c => !decide (c ∈ ns) := by rw [e]; exact List.mem_cons_self
  obtain ⟨m1, m2⟩ := List.mem_filter.mp m
  exact ⟨by simpa using m2, m1⟩
def spSpare (K : PySem.W.Frag) : Sp := fun vs H Q _ => ∃ a ns, vs = [.ref a] ∧ (SqL K H a (ns.map V.str) ∨ SqT K H a (ns.map V.str)) ∧ ns.length ≤ 8 ∧ ∀ G, Same H G → Q (.str (spareOf ns)) G
theorem ok_spare {f : Addr} {fd : FuncData} (F : Fun K "_law_spare" "_law_spare" s_spare f fd) (B : Blt mg) : FnOk P w K mg base CX0 1 f fd ["_law_names"] (spSpare K) := by
  refine F.ok sc_spare (fun vs H Q E h => ?_) (fun cdv A outer s H vs Q E hr h => ?_)
  · obtain ⟨a, ns, rfl, _⟩ := h
    rfl
  obtain ⟨a, ns, rfl, hS, few, q⟩ := h
  refine ⟨_, (pss_one (ps_ret (pe_ix ix_list (pe_lc (own := [("_law_name", 1)]) (g := gName 1) (tt := tTest (tOp (rIn K true) (tVar 1) (tVar 0))) rfl sc_spare.nd (pi_list (pe_lst (pa_cons (pe_op op_mulS pe_str pe_int) (pa_cons (pe_op op_mulS pe_str pe_int) (pa_cons (pe_op op_mulS pe_str pe_int) (pa_cons (pe_op op_mulS pe_str pe_int) (pa_cons (pe_op op_mulS pe_str pe_int) (pa_cons (pe_op op_mulS pe_str pe_int) (pa_cons (pe_op op_mulS pe_str pe_int) (pa_cons (pe_op op_mulS pe_str pe_int) (pa_cons (pe_op op_mulS pe_str pe_int) pa_nil))))))))))) (blkOk_by (own := [("_law_name", 1)]) (N := nm_spare) (sc := defScope s_spare) (by decide +kernel)) (fun _ _ _ _ _ => (pg_name (i := 1) sc_spare.nd rfl (.inl rfl))) (fun _ _ _ _ _ => (pts_one (pt_cmpR op_notIn_seq (pv 1) (pv 0) rfl))) (fun _ _ _ _ _ => (pv 1))) pe_int (fun _ _ => rfl)))), ?_⟩
  refine ⟨"z", 8, "zzzzzzzz", rfl, rfl, (by unfold MulOk; decide +kernel), by decide +kernel, ?_⟩
  refine ⟨"z", 7, "zzzzzzz", rfl, rfl, (by unfold MulOk; decide +kernel), by decide +kernel, ?_⟩
  refine ⟨"y", 8, "yyyyyyyy", rfl, rfl, (by unfold MulOk; decide +kernel), by decide +kernel, ?_⟩
  refine ⟨"y", 7, "yyyyyyy", rfl, rfl, (by unfold MulOk; decide +kernel), by decide +kernel, ?_⟩
  refine ⟨"x", 8, "xxxxxxxx", rfl, rfl, (by unfold MulOk; decide +kernel), by decide +kernel, ?_⟩
  refine ⟨"w", 8, "wwwwwwww", rfl, rfl, (by unfold MulOk; decide +kernel), by decide +kernel, ?_⟩
  refine ⟨"v", 8, "vvvvvvvv", rfl, rfl, (by unfold MulOk; decide +kernel), by decide +kernel, ?_⟩
  refine ⟨"u", 8, "uuuuuuuu", rfl, rfl, (by unfold MulOk; decide +kernel), by decide +kernel, ?_⟩
  refine ⟨"t", 8, "tttttttt", rfl, rfl, (by unfold MulOk; decide +kernel), by decide +kernel, ?_⟩
  refine ⟨Nat.le_of_lt (small1000 (by show 9 ≤ 1000; decide)), fun p np => ⟨p, rfl, ⟨_, SqL.of upd_same⟩, fun D nD => ?_⟩⟩
  refine lc_lstG (xs := cands.map V.str) (Same (upd H p (.lst (cands.map V.str)))) (fun i acc => acc = ((cands.take i).filter fun c => !decide (c ∈ ns)).map V.str) (fun G z => SqL.of (z _ _ upd_same)) (Same.newG nD) rfl (fun i v G hi nx hv => ?_) (fun G acc sm eD ea => ?_)
  · obtain ⟨acc, sm, eD, ea⟩ := nx
    have hv : (cands.map V.str)[i]? = some v := hv
    rw [List.getElem?_map] at hv
    obtain ⟨c, hc, rfl⟩ := Option.map_eq_some_iff.mp hv
    have s0 : Same H G := (Same.newG np).trans sm
    refine ⟨rfl, .str c, rfl, .ref a, rfl, a, ns.map V.str, rfl, hS.elim (fun h => .inl (s0.seq h)) (fun h => .inr (s0.tupS h)), rfl, flat_strs ns, _, rfl, ?_⟩
    have et : (if true = true then !inV (.str c) (ns.map V.str) else inV (.str c) (ns.map V.str)) = !decide (c ∈ ns) := by rw [if_pos rfl, in_strs]
    rw [et]
    have fl : ((cands.take (i + 1)).filter fun c => !decide (c ∈ ns)) = ((cands.take i).filter fun c => !decide (c ∈ ns)) ++ [c].filter fun c => !decide (c ∈ ns) := by
      rw [List.take_add_one, hc, List.filter_append]
      rfl
    cases h1 : decide (c ∈ ns) with
    | true =>
      refine iteF ⟨acc, sm, eD, ?_⟩
      show acc = _
      rw [ea, fl, List.filter_cons_of_neg (by simp [h1]), List.filter_nil, List.append_nil]
    | false =>
      refine iteT ⟨_, rfl, nx_put (fun G o z => z.upG nD) sm eD ?_ ?_⟩
      · rw [ea, List.length_map]
        have z1 : ((cands.take i).filter fun c => !decide (c ∈ ns)).length ≤ (cands.take i).length := List.length_filter_le _ _
        have z2 : (cands.take i).length ≤ 9 := List.length_take_le' i cands
        omega
      · show _ = _
        rw [ea, fl, List.filter_cons_of_pos (by simp [h1]), List.filter_nil, List.map_append]
        rfl
  · obtain ⟨r, er⟩ := spare_head few
    have e2 : acc = V.str (spareOf ns) :: r.map V.str := by
      rw [ea]
      show ((cands.take 9).filter _).map V.str = _
      have : cands.take 9 = cands := rfl
      rw [this, er]
      rfl
    subst e2
    exact ⟨D, _, _, _, rfl, rfl, SqL.of eD, atI_nat (j := 0) rfl, q G ((Same.newG np).trans sm)⟩
end
end K7

set_option Elab.async false
set_option linter.all false
set_option maxRecDepth 100000
set_option maxHeartbeats 1000000
/-! Lm: lists of tuples of ints in the heap; _law_all_rows. -/
namespace Gd
open PySem PySem.Spec PyProof.Rows L2
/-- t + u where u is tracked and not empty: a tracked tuple -/
def rCatN (K : PySem.W.Frag) : R2 := fun x y H Q => ∃ a b xs ys, x = .ref a ∧ y = .ref b ∧ SqT K H a xs ∧ H b = some (.tup ys) ∧ ys ≠ [] ∧ xs.length + ys.length ≤ sizeLine ∧ ∀ c G, Same H G → G c = some (.tup (xs ++ ys)) → Q (.ref c) G
theorem op_catN {X : Cx} : OpR X (binaryOp .Add) (rCatN X.K) := by
  intro pins s σ H x y v u Q I rx ry h
  obtain ⟨a, b, xs, ys, rfl, rfl, hx, hy, ne, few, q⟩ := h
  refine op_catA pins s σ H _ _ v u Q I rx ry ⟨a, b, xs, ys, rfl, rfl, hx, .inl (.inl hy), few, fun e => q b H (Same.refl H) ?_, fun _ e => absurd e ne, fun _ _ p np => q p _ (Same.newG np) upd_same⟩
  rw [e]
  exact hy
/-- a tuple of these ints -/
def IT (K : PySem.W.Frag) (H : Hp) (v : V) (r : List Int) : Prop := ∃ t, v = .ref t ∧ H t = some (.tup (r.map V.int))
inductive Its (K : PySem.W.Frag) (H : Hp) : List V → List (List Int) → Prop
  | nil : Its K H [] []
  | cons {v : V} {vs : List V} {r : List Int} {rs : List (List Int)} (h : IT K H v r) (t : Its K H vs rs) : Its K H (v :: vs) (r :: rs)
section
variable {K : PySem.W.Frag} {H G : Hp}
theorem IT.same {v : V} {r : List Int} (s : Same H G) (h : IT K H v r) : IT K G v r := by
  obtain ⟨t, e, z⟩ := h
  exact ⟨t, e, s _ _ z⟩
/-- a tuple stays where a list is exchanged -/
theorem sqt_put {M t : Addr} {acc xs : List V} {o : HO} (e : H M = some (.lst acc)) (h : SqT K H t xs) : SqT K (upd H M o) t xs := by
  rcases h with (h | ⟨u, h⟩) | h
  · have n : t ≠ M := fun z => by
      subst z
      rw [e] at h
      cases h
    exact .inl (.inl (by rw [upd_ne n]; exact h))
  · have n : t ≠ M := fun z => by
      subst z
      rw [e] at h
      cases h
    exact .inl (.inr ⟨u, by rw [upd_ne n]; exact h⟩)
  · exact .inr h
theorem IT.put {M : Addr} {acc : List V} {o : HO} {v : V} {r : List Int} (e : H M = some (.lst acc)) (h : IT K H v r) : IT K (upd H M o) v r := by
  obtain ⟨t, e1, z⟩ := h
  have n : t ≠ M := fun y => by
    subst y
    rw [e] at z
    cases z
  exact ⟨t, e1, by rw [upd_ne n]; exact z⟩
theorem Its.same (s : Same H G) : ∀ {vs : List V} {rs : List (List Int)}, Its K H vs rs → Its K G vs rs
  | _, _, .nil => .nil
  | _, _, .cons h t => .cons (h.same s) (Its.same s t)
theorem Its.put {M : Addr} {acc : List V} {o : HO} (e : H M = some (.lst acc)) : ∀ {vs : List V} {rs : List (List Int)}, Its K H vs rs → Its K (upd H M o) vs rs
  | _, _, .nil => .nil
  | _, _, .cons h t => .cons (h.put e) (Its.put e t)
theorem Its.app : ∀ {vs ws : List V} {rs us : List (List Int)}, Its K H vs rs → Its K H ws us → Its K H (vs ++ ws) (rs ++ us)
  | _, _, _, _, .nil, b => b
  | _, _, _, _, .cons h t, b => .cons h (Its.app t b)
theorem Its.len : ∀ {vs : List V} {rs : List (List Int)}, Its K H vs rs → vs.length = rs.length
  | _, _, .nil => rfl
  | _, _, .cons _ t => congrArg (· + 1) (Its.len t)
theorem Its.get : ∀ {vs : List V} {rs : List (List Int)} {i : Nat} {v : V}, Its K H vs rs → vs[i]? = some v → ∃ r, rs[i]? = some r ∧ IT K H v r
  | _, _, 0, _, .cons h _, e => by
    cases e
    exact ⟨_, rfl, h⟩
  | _ :: vs, _ :: rs, i + 1, v, .cons _ t, e => Its.get (vs := vs) (rs := rs) (i := i) (v := v) t e
end
end Gd
namespace K7
open PySem PySem.Spec PyProof.Rows L2 Gd
section
variable {P : Program} {w : World} {K : PySem.W.Frag} {mg : Str → Option Value} {base : Heap}
def longer (n : Nat) (r : List Int) : List (List Int) := (List.range n).map fun (j : Nat) => r ++ [(j : Int)]
def rowsN (n : Nat) : Nat → List (List Int)
  | 0 => [[]]
  | i + 1 => (rowsN n i).flatMap (longer n)
theorem rowsN_few : ∀ n, n ≤ 4 → ∀ i, i ≤ 3 → (rowsN n i).length ≤ 64 := by
  intro n hn i hi
  have : n = 0 ∨ n = 1 ∨ n = 2 ∨ n = 3 ∨ n = 4 := by omega
  have : i = 0 ∨ i = 1 ∨ i = 2 ∨ i = 3 := by omega
  rcases ‹n = 0 ∨ _› with rfl | rfl | rfl | rfl | rfl <;> rcases ‹i = 0 ∨ _› with rfl | rfl | rfl | rfl <;> decide +kernel
theorem rowsN_len (n : Nat) : ∀ i, ∀ r ∈ rowsN n i, r.length = i
  | 0, r, h => by
    cases List.mem_singleton.mp h
    rfl
  | i + 1, r, h => by
    obtain ⟨q, hq, hr⟩ := List.mem_flatMap.mp h
    obtain ⟨j, _, rfl⟩ := List.mem_map.mp hr
    rw [List.length_append, rowsN_len n i q hq]
    rfl
theorem flat_take {α β : Type} (f : α → List β) (l : List α) (j : Nat) : ((l.take j).flatMap f).length ≤ (l.flatMap f).length := by
  have e : l.flatMap f = (l.take j).flatMap f ++ (l.drop j).flatMap f := by rw [← List.flatMap_append, List.take_append_drop]
  rw [e, List.length_append]
  omega
def spRowsN (K : PySem.W.Frag) : Sp := fun vs H Q _ => ∃ n p : Nat, vs = [.int n, .int p] ∧ n ≤ 4 ∧ p ≤ 3 ∧ ∀ G L ts, Same H G → G L = some (.lst ts) → Its K G ts (rowsN n p) → Q (.ref L) G
end
end K7

set_option Elab.async false
set_option linter.all false
set_option maxRecDepth 100000
set_option maxHeartbeats 1000000
/-! Ln: _law_with. -/
namespace Gd
open PySem PySem.Spec PyProof.Rows L2
theorem merge_app : ∀ (more acc : List (Key × V)), ((acc ++ more).map Prod.fst).Nodup → mergeK acc more = acc ++ more
  | [], acc, _ => (List.append_nil acc).symm
  | (k, v) :: more, acc, h => by
    show mergeK (putK acc k v) more = _
    have e1 : acc ++ (k, v) :: more = (acc ++ [(k, v)]) ++ more := by rw [List.append_assoc]; rfl
    rw [e1] at h ⊢
    have hk : (acc.any fun kv => decide (kv.1 = k)) = false := by
      rw [List.any_eq_false]
      intro kv hkv
      have h' := h
      rw [List.map_append, List.map_append] at h'
      have n1 := (List.nodup_append.mp (List.nodup_append.mp h').1).2.2 kv.1 (List.mem_map_of_mem hkv) k (by simp)
      simpa using n1
    have e2 : putK acc k v = acc ++ [(k, v)] := by
      unfold putK
      rw [hk, if_neg (by decide)]
    rw [e2]
    exact merge_app more (acc ++ [(k, v)]) h
theorem merge_nil {kvs : List (Key × V)} (h : (kvs.map Prod.fst).Nodup) : mergeK [] kvs = kvs := merge_app kvs [] h
end Gd
namespace K7
open PySem PySem.Spec PyProof.Rows L2 Gd
section
variable {P : Program} {w : World} {K : PySem.W.Frag} {mg : Str → Option Value} {base : Heap}
theorem paired_ts {G : Hp} {K : PySem.W.Frag} {ts : List Addr} {kvs : List (Key × V)} (h : Paired (fun (t : Addr) (q : Key × V) => G t = some (.tup [kV q.1, q.2])) ts kvs) : Paired (fun p kv => SqT K G p [kV kv.1, kv.2]) ts kvs := by
  induction h with
  | nil => exact .nil
  | cons h _ ih => exact .cons (.inl (.inl h)) ih
def spWith : Sp := fun vs H Q _ => ∃ d x v kvs, vs = [.ref d, .str x, v] ∧ H d = some (.dK kvs) ∧ (kvs.map Prod.fst).Nodup ∧ kvs.length ≤ 1000 ∧ ∀ G p, Same H G → H p = none → G p = some (.dK (putK kvs (.inr x) v)) → Q (.ref p) G
theorem ok_with {f : Addr} {fd : FuncData} (F : Fun K "_law_with" "_law_with" s_with f fd) (B : Blt mg) : FnOk P w K mg base CX0 1 f fd ["_law_record", "_law_word", "_law_value"] spWith := by
  refine F.ok sc_with (fun vs H Q E h => ?_) (fun cdv A outer s H vs Q E hr h => ?_)
  · obtain ⟨d, x, v, kvs, rfl, _⟩ := h
    rfl
  obtain ⟨d, x, v, kvs, rfl, hd, nd, few, q⟩ := h
  refine ⟨_, (pss_cons (ps_set (i := 3) sc_with.nd rfl (.inl rfl) (pe_callTy (call_dictP rfl) (by rfl) B.dict_ (by decide +kernel) (pa_cons (LiI.pe_listItems rfl (pv 0) (by rfl) B.list_ (by decide +kernel)) pa_nil)))
  (pss_cons (ps_dput (hu_of hr) (pv 3) (pv 1) (pv 2) rfl)
  (pss_one (ps_ret (pv 3))))), ?_⟩
  refine ⟨.ref d, rfl, d, kvs, rfl, hd, fun G p ts sm np nts pts hp hts => ⟨p, ts, kvs, rfl, SqL.of hp, paired_ts hts, fun r nr => ?_⟩⟩
  rw [merge_nil nd]
  refine ⟨v, rfl, .ref r, rfl, .str x, rfl, r, _, rfl, DPut.k (k := .inr x) upd_same (small1000 few), .ref r, rfl, ?_⟩
  have nH : H r = none := Same.free sm nr
  have sm : Same H G := sm
  exact q _ r ((sm.upG nH).upG nH) nH upd_same
end
end K7

set_option Elab.async false
set_option linter.all false
set_option maxRecDepth 100000
set_option maxHeartbeats 1000000
/-! Lo: names of letters; _law_many_names. -/
namespace K7
open PySem PySem.Spec PyProof.Rows L2 Gd
/-- letters only -/
def Al (x : Str) : Prop := ∀ c ∈ x.cps.toList, c ∈ letters.cps.toList
def Nm (x : Str) : Prop := 1 ≤ x.length ∧ x.length ≤ 8 ∧ Al x
theorem add_len (a b : Str) : (a ++ b).length = a.length + b.length := by
  show (a.cps ++ b.cps).size = _
  rw [Array.size_append]
  rfl
theorem al_add {a b : Str} (h : Al a) (h2 : Al b) : Al (a ++ b) := fun c hc => by
  have hc : c ∈ (a.cps ++ b.cps).toList := hc
  rw [Array.toList_append] at hc
  exact (List.mem_append.mp hc).elim (h c) (h2 c)
theorem al_one {c : Nat} (h : c ∈ letters.cps.toList) : Al ⟨#[c]⟩ := fun d hd => by
  cases List.mem_singleton.mp hd
  exact h
theorem al_eight {c : Nat} (h : c ∈ letters.cps.toList) : Al (Txt.mul ⟨#[c]⟩ 8) ∧ (Txt.mul ⟨#[c]⟩ 8).length = 8 ∧ MulOk ⟨#[c]⟩ 8 := by
  have e : Txt.mul ⟨#[c]⟩ 8 = ⟨#[c, c, c, c, c, c, c, c]⟩ := rfl
  rw [e]
  refine ⟨fun d hd => ?_, rfl, rfl, fun _ _ => ?_, fun _ _ => rfl⟩
  · have hd : d ∈ [c, c, c, c, c, c, c, c] := hd
    simp only [List.mem_cons, List.not_mem_nil, or_false, or_self] at hd
    subst hd
    exact h
  · show ¬ ((1 : Int) > _)
    decide
theorem al_cut {a : Str} (h : Al a) (lo hi : Option Int) : Al (cutS a lo hi) := fun c hc => by
  have hc : c ∈ ((a.cps.toList.drop (HT.sIx a.length 0 lo)).take (HT.sIx a.length a.length hi - HT.sIx a.length 0 lo)).toArray.toList := hc
  rw [List.toList_toArray] at hc
  exact h c (List.mem_of_mem_drop (List.mem_of_mem_take hc))
theorem al_nil : Al (Str.ofString "") := fun c hc => by cases hc
theorem al_join : ∀ cs : List Str, (∀ c ∈ cs, Al c) → Al (Str.join (Str.ofString "") cs)
  | [], _ => fun c hc => by cases hc
  | [x], h => h x List.mem_cons_self
  | x :: y :: r, h => al_add (al_add (h x List.mem_cons_self) al_nil) (al_join (y :: r) fun c hc => h c (List.mem_cons_of_mem _ hc))
theorem cut_two (z : Str) (i : Int) : (cutS z none (some i)).length + (cutS z (some i) none).length ≤ z.length := by
  show (((z.cps.toList.drop (HT.sIx z.length 0 none)).take (HT.sIx z.length z.length (some i) - HT.sIx z.length 0 none)).toArray).size + (((z.cps.toList.drop (HT.sIx z.length 0 (some i))).take (HT.sIx z.length z.length none - HT.sIx z.length 0 (some i))).toArray).size ≤ z.cps.size
  have e0 : HT.sIx z.length 0 none = 0 := rfl
  have e1 : HT.sIx z.length z.length none = z.cps.size := rfl
  have e2 : HT.sIx z.length z.length (some i) = HT.sIx z.length 0 (some i) := rfl
  rw [e0, e1, e2, List.size_toArray, List.size_toArray, List.length_take, List.length_drop, List.length_take, List.length_drop, Array.length_toList]
  omega
theorem cut_pos {z : Str} {i : Int} (h : 1 ≤ i) (hz : 1 ≤ z.length) : 1 ≤ (cutS z none (some i)).length := by
  show 1 ≤ (((z.cps.toList.drop (HT.sIx z.length 0 none)).take (HT.sIx z.length z.length (some i) - HT.sIx z.length 0 none)).toArray).size
  have e0 : HT.sIx z.length 0 none = 0 := rfl
  have e1 : 1 ≤ HT.sIx z.length z.length (some i) := by
    unfold HT.sIx
    simp only []
    split <;> omega
  have hz : 1 ≤ z.cps.size := hz
  rw [e0, List.size_toArray, List.length_take, List.length_drop, Array.length_toList]
  omega
theorem cutV_mem {xs : List V} {lo hi : Option Int} {v : V} (h : v ∈ cutV xs lo hi) : v ∈ xs := List.mem_of_mem_drop (List.mem_of_mem_take h)
theorem cutV_len (xs : List V) (lo hi : Option Int) : (cutV xs lo hi).length ≤ xs.length := by
  unfold cutV
  rw [List.length_take, List.length_drop]
  omega
section
variable {P : Program} {w : World} {K : PySem.W.Frag} {mg : Str → Option Value} {base : Heap}
def spNames : Sp := fun vs H Q _ => ∃ (k : Addr) (m : Int), vs = [.ref k, .int m] ∧ Sack H k ∧ ∀ (G : Hp) (p : Addr) (ns : List Str), But k H G → H p = none → p ≠ k → G p = some (.lst (ns.map V.str)) → ns.length ≤ 26 → (0 ≤ m → m ≤ 26 → (ns.length : Int) = m) → (∀ x ∈ ns, Nm x) → Q (.ref p) G
theorem ok_many_names {f : Addr} {fd : FuncData} (F : Fun K "_law_many_names" "_law_many_names" s_many_names f fd) (B : Blt mg) (C1 : Has P w K mg base 1 "_law_grab" ["_law_sack_here", "_law_total"] spGrab) (C2 : Has P w K mg base 2 "_law_letter" ["_law_sack_here"] spLetter) (C3 : Has P w K mg base 2 "_law_shuffled" ["_law_sack_here", "_law_items"] spShuf) : FnOk P w K mg base CX0 3 f fd ["_law_sack_here", "_law_much"] spNames := by
  obtain ⟨f1, fd1, G_grab, g_grab, k_grab, b_grab⟩ := C1.ex
  obtain ⟨f2, fd2, G_letter, g_letter, k_letter, b_letter⟩ := C2.ex
  obtain ⟨f3, fd3, G_shuffled, g_shuffled, k_shuffled, b_shuffled⟩ := C3.ex
  refine F.ok sc_many_names (fun vs H Q E h => ?_) (fun cdv A outer s H vs Q E hr h => ?_)
  · obtain ⟨k, m, rfl, _⟩ := h
    rfl
  obtain ⟨k, m, rfl, hk, q⟩ := h
  refine ⟨_, (pss_cons (L2.ps_par3 (i := 2) (j := 3) (l := 4) (by rfl) sc_many_names.nd rfl rfl rfl (by decide) (by decide) (by decide) rfl rfl rfl (pa_cons (pe_join pe_str (pe_lc (own := [("_law_at", 7)]) (g := gName 7) (tt := tYes) rfl sc_many_names.nd (pi_range1 (by rfl) B.range_ (pa_cons (pe_call G_grab (hr.mono (by decide)) (by rfl) g_grab k_grab b_grab .nil pass0 (pa_cons (pv 0) (pa_cons pe_int pa_nil))) pa_nil)) (blkOk_by (own := [("_law_at", 7)]) (N := nm_many_names) (sc := defScope s_many_names) (by decide +kernel)) (fun _ _ _ _ _ => (pg_name (i := 7) sc_many_names.nd rfl (.inl rfl))) (fun _ _ _ _ _ => pts_nil) (fun _ _ _ _ _ => (pe_call G_letter (hr.mono (by decide)) (by rfl) g_letter k_letter b_letter .nil pass0 (pa_cons (pv 0) pa_nil))))) (pa_cons (pe_call G_grab (hr.mono (by decide)) (by rfl) g_grab k_grab b_grab .nil pass0 (pa_cons (pv 0) (pa_cons pe_int pa_nil))) (pa_cons (pe_lst pa_nil) pa_nil))) (by rfl))
  (pss_cons (ps_set (i := 5) sc_many_names.nd rfl (.inl rfl) (pe_call G_grab (hr.mono (by decide)) (by rfl) g_grab k_grab b_grab .nil pass0 (pa_cons (pv 0) (pa_cons (pe_op op_add (pe_callB call_len_str (by rfl) B.len_ (by decide +kernel) (pa_cons (pv 2) pa_nil)) pe_int) pa_nil))))
  (pss_cons (ps_for PassesOwn.never rfl (pi_list (pe_slice sl_list (pe_call G_shuffled (hr.mono (by decide)) (by rfl) g_shuffled k_shuffled b_shuffled .nil pass0 (pa_cons (pv 0) (pa_cons pe_str pa_nil))) po_none (po_some (pv 1)))) (pg_name (i := 6) sc_many_names.nd rfl (.inl rfl)) (pss_one (ps_if (pt_cmpR op_eq (pv 3) pe_int (nomark _)) (pss_one (ps_expr (pe_bm PySem.F.plainAttrs_list PySem.F.slot_list_append PySem.F.type_list_append mt_append (pv 4) (pa_cons (pe_op op_add_str (pe_op op_add_str (pe_slice sl_str (pv 2) po_none (po_some (pv 5))) (pv 6)) (pe_slice sl_str (pv 2) (po_some (pv 5)) po_none)) pa_nil)))) (pss_one (ps_if (pt_cmpR op_eq (pv 3) pe_int (nomark _)) (pss_one (ps_expr (pe_bm PySem.F.plainAttrs_list PySem.F.slot_list_append PySem.F.type_list_append mt_append (pv 4) (pa_cons (pe_op op_add_str (pv 6) (pe_slice sl_str (pv 2) po_none (po_some (pe_call G_grab (hr.mono (by decide)) (by rfl) g_grab k_grab b_grab .nil pass0 (pa_cons (pv 0) (pa_cons (pe_op op_add (pe_callB call_len_str (by rfl) B.len_ (by decide +kernel) (pa_cons (pv 2) pa_nil)) pe_int) pa_nil)))))) pa_nil)))) (pss_one (ps_expr (pe_bm PySem.F.plainAttrs_list PySem.F.slot_list_append PySem.F.type_list_append mt_append (pv 4) (pa_cons (pe_slice sl_str (pe_op op_mulS (pv 6) pe_int) po_none (po_some (pe_op op_add pe_int (pe_call G_grab (hr.mono (by decide)) (by rfl) g_grab k_grab b_grab .nil pass0 (pa_cons (pv 0) (pa_cons pe_int pa_nil)))))) pa_nil)))))))))
  (pss_one (ps_ret (pv 4)))))), ?_⟩
  refine ⟨⟨_, rfl⟩, .ref k, rfl, k, 8, rfl, hk, by decide, by decide, fun G1 n b1 n0 n1 => ⟨n, rfl, by omega, by omega, fun D nD => ?_⟩⟩
  have Dk : D ≠ k := b1.sack.ne nD
  refine lc_rngG (But k G1) (fun i acc => ∃ cs : List Str, acc = cs.map V.str ∧ cs.length = i ∧ ∀ c ∈ cs, c.length = 1 ∧ Al c) ((But.same b1.sack (Same.refl G1)).up nD) ⟨[], rfl, rfl, fun c hc => by cases hc⟩ (fun i G2 hi nx => ?_) (fun G2 acc b2 eD ea => ?_)
  · obtain ⟨acc, b2, eD, cs, ea, el, ec⟩ := nx
    refine ⟨rfl, tyes ?_⟩
    refine ⟨.ref k, rfl, k, rfl, b2.sack, fun G3 c b3 hc => nx_put (fun F o z => z.upD nD Dk) (b2.trans b3) (b3.stay D _ Dk eD) (by rw [ea, List.length_map, el]; omega) ⟨cs ++ [⟨#[c]⟩], ?_, ?_, ?_⟩⟩
    · rw [ea, List.map_append]
      rfl
    · rw [List.length_append, el]
      rfl
    · intro d hd
      rcases List.mem_append.mp hd with hd | hd
      · exact ec d hd
      · cases List.mem_singleton.mp hd
        exact ⟨rfl, al_one hc⟩
  · obtain ⟨cs, ea, el, ec⟩ := ea
    have sum : ∀ l : List Str, (∀ c ∈ l, c.length = 1 ∧ Al c) → (l.map (·.length)).sum = l.length := by
      intro l
      induction l with
      | nil => intro _; rfl
      | cons c l ih =>
        intro h
        rw [List.map_cons, List.sum_cons, ih fun d hd => h d (List.mem_cons_of_mem _ hd), (h c List.mem_cons_self).1, List.length_cons]
        omega
    have hcs := sum cs ec
    have hn : n.toNat ≤ 7 := by omega
    refine ⟨_, D, cs, rfl, rfl, .inl (.inl (.inl (by rw [eD, ea]))), by
      rw [hcs, show (Str.ofString "").length = 0 from rfl]
      omega, ?_⟩
    have ta : Al (Txt.join (Str.ofString "") cs) := by
      rw [TL.join_eq]
      exact al_join cs fun c hc => (ec c hc).2
    have tl : (Txt.join (Str.ofString "") cs).length ≤ 7 := by
      have z := StrLaws.join_length_le (Str.ofString "") cs
      rw [← TL.join_eq, hcs, show (Str.ofString "").length = 0 from rfl] at z
      omega
    generalize Txt.join (Str.ofString "") cs = text at ta tl
    have tz : text.length ≤ sizeLine := Nat.le_of_lt (small1000 (by omega))
    refine ⟨.ref k, rfl, k, 3, rfl, b2.sack, by decide, by decide, fun G3 lot b3 l0 l1 => ⟨Nat.zero_le _, fun p np => ⟨_, _, _, rfl, ?_⟩⟩⟩
    have b3h : But k H G3 := (b1.trans b2).trans b3
    have pk : p ≠ k := b3.sack.ne np
    have pH : H p = none := b3h.free hk np
    have b4 : But k H (upd G3 p (.lst [])) := b3h.up np
    refine ⟨.ref k, rfl, .str text, rfl, text, rfl, tz, _, 1, rfl, rfl, k, _, rfl, b4.sack, by omega, by omega, fun G5 sp b5 p0 p1 => ?_⟩
    refine ⟨.ref k, rfl, k, .str letters, sgnV letters, rfl, b5.sack, .inr ⟨_, rfl, rfl⟩, by decide +kernel, fun G6 q6 ys b6 qk nq hq perm => ?_⟩
    refine ⟨.int m, rfl, m, rfl, q6, ys, rfl, SqL.of hq, fun p7 np7 => ⟨p7, rfl, ⟨_, SqL.of upd_same⟩, ?_⟩⟩
    have b6h : But k H G6 := (b4.trans b5).trans b6
    have hp6 : G6 p = some (.lst []) := b6.stay p _ pk (b5.stay p _ pk upd_same)
    have p7k : p7 ≠ k := b6.sack.ne np7
    have pp : p ≠ p7 := ne_of_none hp6 np7
    have ylen : (cutV ys none (some m)).length ≤ 26 := Nat.le_trans (cutV_len _ _ _) (Nat.le_of_eq (perm.length_eq.trans (by decide +kernel)))
    have yl2 : 0 ≤ m → m ≤ 26 → ((cutV ys none (some m)).length : Int) = m := fun h0 h1 => by
      obtain ⟨u, rfl⟩ := Int.eq_ofNat_of_zero_le h0
      have l26 : ys.length = 26 := perm.length_eq.trans (by decide +kernel)
      unfold cutV
      rw [HT.sIx_nat ys.length ys.length u]
      rw [show HT.sIx ys.length 0 none = 0 from rfl]
      simp only [List.length_take, List.length_drop]
      omega
    have ymem : ∀ v ∈ cutV ys none (some m), ∃ c, v = .str ⟨#[c]⟩ ∧ c ∈ letters.cps.toList := fun v hv => by
      have z := perm.mem_iff.mp (cutV_mem hv)
      obtain ⟨c, hc, e⟩ := List.mem_map.mp z
      exact ⟨c, e.symm, hc⟩
    generalize cutV ys none (some m) = zs at ylen yl2 ymem ⊢
    refine for_list (xs := zs) (fun j σ F => ∃ (ns : List Str) (z6 z7 : Option V), σ = [some (.ref k), some (.int m), some (.str text), some (.int lot), some (.ref p), some (.int sp), z6, z7] ∧ But k H F ∧ F p7 = some (.lst zs) ∧ F p = some (.lst (ns.map V.str)) ∧ ns.length = j ∧ ∀ x ∈ ns, Nm x) ?_ (fun j σ F hj hW => ?_) (fun j v σ F hv hW => ?_) (fun σ F hW => ?_)
    · exact ⟨[], _, _, rfl, b6h.up np7, upd_same, by rw [upd_ne pp]; exact hp6, rfl, fun x hx => by cases hx⟩
    · obtain ⟨ns, z6, z7, rfl, _, h7, _⟩ := hW
      exact SqL.of h7
    · obtain ⟨ns, z6, z7, rfl, bF, h7, hp, hl, hg⟩ := hW
      have jl : j < zs.length := (List.getElem?_eq_some_iff.mp hv).1
      obtain ⟨c, rfl, hc⟩ := ymem v (List.mem_of_getElem? hv)
      have big : ∀ n : Nat, n ≤ 400 → n ≤ sizeLine := fun n h => Nat.le_of_lt (small1000 (by omega))
      have cl : ∀ lo hi, (cutS text lo hi).length ≤ text.length := fun lo hi => cutS_length text lo hi
      have one : (Str.mk #[c]).length = 1 := rfl
      have fin : ∀ (x : Str) (y7 : Option V) (F2 : Hp), But k F F2 → Nm x → ∃ (l : Addr) (xs : List V) (y : V), V.ref p = .ref l ∧ [V.str x] = [y] ∧ F2 l = some (.lst xs) ∧ xs.length < sizeLine ∧ ∃ (ns : List Str) (z6 z7 : Option V), [some (V.ref k), some (.int m), some (.str text), some (.int lot), some (.ref p), some (.int sp), some (.str ⟨#[c]⟩), y7] = [some (.ref k), some (.int m), some (.str text), some (.int lot), some (.ref p), some (.int sp), z6, z7] ∧ But k H (upd F2 l (.lst (xs ++ [y]))) ∧ (upd F2 l (.lst (xs ++ [y]))) p7 = some (.lst zs) ∧ (upd F2 l (.lst (xs ++ [y]))) p = some (.lst (ns.map V.str)) ∧ ns.length = j + 1 ∧ ∀ x ∈ ns, Nm x := by
        intro x y7 F2 b2 hx
        refine ⟨p, ns.map V.str, .str x, rfl, rfl, b2.stay p _ pk hp, small1000 (by rw [List.length_map]; omega), ns ++ [x], _, _, rfl, (bF.trans b2).upD pH pk, ?_, ?_, ?_, ?_⟩
        · rw [upd_ne pp.symm]
          exact b2.stay p7 _ p7k h7
        · rw [upd_same, List.map_append]
          rfl
        · rw [List.length_append, hl]
          rfl
        · intro y hy
          rcases List.mem_append.mp hy with hy | hy
          · exact hg y hy
          · cases List.mem_singleton.mp hy
            exact hx
      refine ⟨.int lot, rfl, rfl, _, rfl, ?_⟩
      rw [dec_v]
      cases h1 : decide (lot = 0) with
      | true =>
        refine iteT ⟨.ref p, rfl, .inl ⟨rfl, _, SqL.of hp⟩, .str text, rfl, .int sp, rfl, sp, rfl, text, rfl, tz, .str ⟨#[c]⟩, rfl, _, _, rfl, rfl, big _ ?_, .str text, rfl, .int sp, rfl, sp, rfl, text, rfl, tz, _, _, rfl, rfl, big _ ?_, fin _ _ F (But.same bF.sack (Same.refl F)) ⟨?_, ?_, ?_⟩⟩
        all_goals first | exact al_add (al_add (al_cut ta _ _) (al_one hc)) (al_cut ta _ _) | skip
        all_goals
          have z1 := cut_two text sp
          simp only [add_len, one]
          omega
      | false =>
        refine iteF ⟨.int lot, rfl, rfl, _, rfl, ?_⟩
        rw [dec_v]
        cases h2 : decide (lot = 1) with
        | true =>
          refine iteT ⟨.ref p, rfl, .inl ⟨rfl, _, SqL.of hp⟩, .str ⟨#[c]⟩, rfl, .str text, rfl, .ref k, rfl, .str text, rfl, text, rfl, tz, _, 1, rfl, rfl, k, _, rfl, bF.sack, by omega, by omega, fun F2 g bg g0 g1 => ⟨g, rfl, text, rfl, tz, _, _, rfl, rfl, big _ ?_, fin _ _ F2 bg ⟨?_, ?_, al_add (al_one hc) (al_cut ta _ _)⟩⟩⟩
          all_goals
            have z1 := cl none (some g)
            simp only [add_len, one]
            omega
        | false =>
          obtain ⟨e1, e2, e3⟩ := al_eight hc
          refine iteF ⟨.ref p, rfl, .inl ⟨rfl, _, SqL.of hp⟩, .str ⟨#[c]⟩, rfl, ⟨#[c]⟩, 8, _, rfl, rfl, e3, rfl, .ref k, rfl, k, 8, rfl, bF.sack, by decide, by decide, fun F2 g bg g0 g1 => ⟨1, g, rfl, rfl, 1 + g, rfl, _, rfl, big _ (by omega), fin _ _ F2 bg ⟨cut_pos (by omega) (by omega), ?_, al_cut e1 _ _⟩⟩⟩
          have z1 := cutS_length (Txt.mul ⟨#[c]⟩ 8) none (some (1 + g))
          omega
    · obtain ⟨ns, z6, z7, rfl, bF, h7, hp, hl, hg⟩ := hW
      exact ⟨.ref p, rfl, q F p ns bF pH pk hp (by omega) (fun h0 h1 => by have := yl2 h0 h1; omega) hg⟩
end
end K7

set_option Elab.async false
set_option linter.all false
set_option maxRecDepth 100000
set_option maxHeartbeats 1000000
/-! Lp: facts of rowsN; tuples under a dict's lock. -/
namespace K7
open PySem PySem.Spec PyProof.Rows L2 Gd
theorem rowsN_unlike : ∀ n, n ≤ 4 → ∀ i, i ≤ 3 → (rowsN n i).Nodup := by
  intro n hn i hi
  have a : n = 0 ∨ n = 1 ∨ n = 2 ∨ n = 3 ∨ n = 4 := by omega
  have b : i = 0 ∨ i = 1 ∨ i = 2 ∨ i = 3 := by omega
  rcases a with rfl | rfl | rfl | rfl | rfl <;> rcases b with rfl | rfl | rfl | rfl <;> decide +kernel
theorem rowsN_in (n : Nat) : ∀ i, ∀ r ∈ rowsN n i, ∀ x ∈ r, 0 ≤ x ∧ x < n
  | 0, r, h, x, hx => by
    cases List.mem_singleton.mp h
    cases hx
  | i + 1, r, h, x, hx => by
    obtain ⟨q, hq, hr⟩ := List.mem_flatMap.mp h
    obtain ⟨j, hj, rfl⟩ := List.mem_map.mp hr
    rcases List.mem_append.mp hx with hx | hx
    · exact rowsN_in n i q hq x hx
    · cases List.mem_singleton.mp hx
      have := List.mem_range.mp hj
      omega
end K7
namespace Gd
open PySem PySem.Spec PyProof.Rows L2
section
variable {K : PySem.W.Frag} {H : Hp}
theorem sqt_lock {d t : Addr} {kvs : List (Key × V)} {xs : List V} {o : HO} (e : H d = some (.dK kvs)) (h : SqT K H t xs) : SqT K (upd H d o) t xs := by
  rcases h with (h | ⟨u, h⟩) | h
  · have n : t ≠ d := fun z => by
      subst z
      rw [e] at h
      cases h
    exact .inl (.inl (by rw [upd_ne n]; exact h))
  · have n : t ≠ d := fun z => by
      subst z
      rw [e] at h
      cases h
    exact .inl (.inr ⟨u, by rw [upd_ne n]; exact h⟩)
  · exact .inr h
/-- an int tuple as a judge sees it -/
theorem js_ints : ∀ r : List Int, JsAll K H (r.map V.int) (r.map Jv.int)
  | [] => .nil
  | x :: r => .cons (.int x) (js_ints r)
theorem js_it {v : V} {r : List Int} (h : IT K H v r) (few : r.length ≤ 1000) : Js K H v (.tup (r.map Jv.int)) := by
  obtain ⟨t, rfl, z⟩ := h
  exact .tup (.inl (.inl z)) (by rw [List.length_map]; exact few) (js_ints r)
theorem js_its : ∀ {vs : List V} {rs : List (List Int)}, Its K H vs rs → (∀ r ∈ rs, r.length ≤ 1000) → JsAll K H vs (rs.map fun r => .tup (r.map Jv.int))
  | _, _, .nil, _ => .nil
  | _, _, .cons h t, f => .cons (js_it h (f _ List.mem_cons_self)) (js_its t fun r hr => f r (List.mem_cons_of_mem _ hr))
theorem Its.lock {d : Addr} {kvs : List (Key × V)} {o : HO} (e : H d = some (.dK kvs)) : ∀ {vs : List V} {rs : List (List Int)}, Its K H vs rs → Its K (upd H d o) vs rs
  | _, _, .nil => .nil
  | _, _, .cons ⟨t, e1, z⟩ r => by
    have n : t ≠ d := fun y => by
      subst y
      rw [e] at z
      cases z
    exact .cons ⟨t, e1, by rw [upd_ne n]; exact z⟩ (Its.lock e r)
end
end Gd

set_option Elab.async false
set_option linter.all false
set_option maxRecDepth 100000
set_option maxHeartbeats 1000000
/-! Lq: ties of a plain book in the heap, and as is_ties judges them. -/
namespace K7
open PySem PySem.Spec PyProof.Rows L2 Gd
/-- a tie: its places and its rows -/
abbrev Tie := Nat × List (List Int)
def tieV (q : Tie) : Jv := .tup [.int q.1, .tup (q.2.map fun r => .tup (r.map Jv.int))]
def TieAt (K : PySem.W.Frag) (H : Hp) (v : V) (q : Tie) : Prop := ∃ a b ts, v = .ref a ∧ SqT K H a [.int q.1, .ref b] ∧ SqT K H b ts ∧ Its K H ts q.2
section
variable {K : PySem.W.Frag} {H G : Hp}
theorem TieAt.same {v : V} {q : Tie} (s : Same H G) (h : TieAt K H v q) : TieAt K G v q := by
  obtain ⟨a, b, ts, e, h1, h2, h3⟩ := h
  exact ⟨a, b, ts, e, s.tupS h1, s.tupS h2, h3.same s⟩
theorem TieAt.lock {d : Addr} {kvs : List (Key × V)} {o : HO} {v : V} {q : Tie} (e : H d = some (.dK kvs)) (h : TieAt K H v q) : TieAt K (upd H d o) v q := by
  obtain ⟨a, b, ts, e1, h1, h2, h3⟩ := h
  exact ⟨a, b, ts, e1, sqt_lock e h1, sqt_lock e h2, h3.lock e⟩
theorem TieAt.js {v : V} {q : Tie} (h : TieAt K H v q) (few : q.2.length ≤ 1000) (short : ∀ r ∈ q.2, r.length ≤ 1000) : Js K H v (tieV q) := by
  obtain ⟨a, b, ts, rfl, h1, h2, h3⟩ := h
  exact .tup h1 (by show 2 ≤ 1000; decide) (.cons (.int _) (.cons (.tup h2 (by rw [h3.len]; exact few) (js_its h3 short)) .nil))
/-- the ties of a plain book in a dict -/
structure TiesAt (K : PySem.W.Frag) (H : Hp) (d : Addr) (kvs : List (Key × V)) (ps : List (Str × Tie)) : Prop where
  at_ : H d = some (.dK kvs)
  len : kvs.length = ps.length
  few : kvs.length ≤ 1000
  one : ∀ (i : Nat) (k : Key) (v : V), kvs[i]? = some (k, v) → ∃ q, ps[i]? = some q ∧ k = .inr q.1 ∧ TieAt K H v q.2
  names : ∀ q ∈ ps, q.1.length ≤ 1000
  rows : ∀ q ∈ ps, q.2.2.length ≤ 1000 ∧ ∀ r ∈ q.2.2, r.length ≤ 1000
theorem TiesAt.judged {d : Addr} {kvs : List (Key × V)} {ps : List (Str × Tie)} (h : TiesAt K H d kvs ps) : DictJ K H d (ps.map fun q => (.str q.1, tieV q.2)) := by
  refine ⟨kvs, h.at_, by rw [List.length_map]; exact h.len, h.few, fun i k v e => ?_⟩
  obtain ⟨q, hq, rfl, ht⟩ := h.one i k v e
  have m := List.mem_of_getElem? hq
  refine ⟨.str q.1, tieV q.2, by rw [List.getElem?_map, hq]; rfl, fun o => ⟨.str q.1 (h.names q m), (ht.lock h.at_).js (h.rows q m).1 (h.rows q m).2⟩⟩
end
end K7

set_option Elab.async false
set_option linter.all false
set_option maxRecDepth 100000
set_option maxHeartbeats 1000000
/-! Lr: ties and names of a plain book are what is_ties asks for. -/
namespace K7
open PySem PySem.Spec PyProof.Rows L2 Gd
/-- a good tie over n values -/
structure GoodTie (n : Nat) (q : Tie) : Prop where
  one : 1 ≤ q.1
  few : q.1 ≤ 3
  long : ∀ r ∈ q.2, r.length = q.1
  inn : ∀ r ∈ q.2, ∀ x ∈ r, 0 ≤ x ∧ x < n
  asc : ascL q.2 = true
theorem below_int {n : Nat} {x : Int} (hn : n ≤ 4) (h : 0 ≤ x ∧ x < n) : belowJ n (.int x) = true := by
  show ((((decide (-TL < x) && decide (x < TL)) && decide (0 ≤ x)) && decide (x < (n : Int))) = true)
  have e1 : -TL < x := by unfold TL; omega
  have e2 : x < TL := by unfold TL; omega
  rw [decide_eq_true e1, decide_eq_true e2, decide_eq_true h.1, decide_eq_true h.2]
  rfl
theorem vals_ints (r : List Int) : (r.map Jv.int).map valJ = r := by
  rw [List.map_map]
  exact List.map_id r
theorem row_good {n p : Nat} {r : List Int} (hn : n ≤ 4) (hl : r.length = p) (h : ∀ x ∈ r, 0 ≤ x ∧ x < n) : rowJ n p (.tup (r.map Jv.int)) = true := by
  unfold rowJ
  rw [is_tup_tuple, Bool.true_and, Bool.and_eq_true]
  refine ⟨decide_eq_true (by show (((r.map Jv.int).length : Nat) : Int) = p; rw [List.length_map, hl]), ?_⟩
  show (r.map Jv.int).all (belowJ n) = true
  rw [List.all_map]
  exact List.all_eq_true.mpr fun x hx => below_int hn (h x hx)
theorem tie_good {n : Nat} {q : Tie} (hn : n ≤ 4) (g : GoodTie n q) : tieJ n (tieV q) = true := by
  have hr : rowsJ n q.1 (.tup (q.2.map fun r => .tup (r.map Jv.int))) = true := by
    unfold rowsJ
    rw [is_tup_tuple, Bool.true_and, Bool.and_eq_true]
    constructor
    · show (q.2.map fun r => Jv.tup (r.map Jv.int)).all (rowJ n q.1) = true
      rw [List.all_map]
      exact List.all_eq_true.mpr fun r hr => row_good hn (g.long r hr) (g.inn r hr)
    · show ascL ((q.2.map fun r => Jv.tup (r.map Jv.int)).map intsJ) = true
      have e : (q.2.map fun r => Jv.tup (r.map Jv.int)).map intsJ = q.2 := by
        rw [List.map_map]
        refine (List.map_congr_left (g := id) fun r _ => ?_).trans (List.map_id _)
        exact vals_ints r
      rw [e]
      exact g.asc
  have h1 := g.one
  have h3 := g.few
  show (Jv.is _ "tuple" && (decide (((2 : Nat) : Int) = 2) && ((decide (-TL < (q.1 : Int)) && decide ((q.1 : Int) < TL)) && ((decide (1 ≤ (q.1 : Int)) && decide ((q.1 : Int) ≤ 3)) && rowsJ n q.1 (.tup (q.2.map fun r => .tup (r.map Jv.int))))))) = true
  have e1 : -TL < (q.1 : Int) := by unfold TL; omega
  have e2 : (q.1 : Int) < TL := by unfold TL; omega
  have e3 : (1 : Int) ≤ q.1 := by omega
  have e4 : (q.1 : Int) ≤ 3 := by omega
  unfold tieV
  rw [is_tup_tuple, hr, decide_eq_true e1, decide_eq_true e2, decide_eq_true e3, decide_eq_true e4]
  rfl
theorem name_good {x : Str} (h : Nm x) : nameJ (.str x) = true := by
  show (decide ((1 : Int) ≤ (x.length : Int)) && decide ((x.length : Int) ≤ 8) && x.cps.toList.all inLetters) = true
  obtain ⟨h1, h2, h3⟩ := h
  have e1 : (1 : Int) ≤ (x.length : Int) := by omega
  have e2 : (x.length : Int) ≤ 8 := by omega
  rw [decide_eq_true e1, decide_eq_true e2, Bool.true_and, Bool.true_and]
  exact List.all_eq_true.mpr fun c hc => decide_eq_true (h3 c hc)
/-- is_ties says yes of a plain book's ties -/
theorem ties_good {n : Nat} {ps : List (Str × Tie)} (hn : n ≤ 4) (few : ps.length ≤ 8) (h : ∀ q ∈ ps, Nm q.1 ∧ GoodTie n q.2) : tiesJ n (ps.map fun q => (.str q.1, tieV q.2)) = true := by
  unfold tiesJ
  rw [Bool.and_eq_true]
  refine ⟨decide_eq_true (by rw [List.length_map]; omega), ?_⟩
  rw [List.all_map]
  refine List.all_eq_true.mpr fun q hq => ?_
  show (nameJ (.str q.1) && tieJ n (tieV q.2)) = true
  rw [name_good (h q hq).1, tie_good hn (h q hq).2]
  rfl
end K7

set_option Elab.async false
set_option linter.all false
set_option maxRecDepth 100000
set_option maxHeartbeats 4000000
/-! Ow: what an own class says of in, [], len, ==, !=, str and for. -/
namespace Gd
open PySem PySem.Spec PyProof.Rows L2
section
variable {X : Cx} {CX : CXT} {k : Nat} {f : Addr} {fd : FuncData} {ps : List Str} {sp : Sp} {E : XK} {C : Addr}
/-- an own def, called from a built-in -/
theorem own_call {A : Around} {pins : List (Addr × Obj)} {s : Shared} {σ : L2.St} {H : Hp} {vs : List V} {us : List Value} {Q : VK} (F : FnOk X.prog X.w X.K X.mg X.base CX k f fd ps sp) (sb : Sub X k A) (hb : Binds X.K fd ps []) (hx : Passes CX X E)
    (I : Inv X pins σ H s) (rv : Vals vs us) (hsp : sp vs H Q E) : wpAny (model X.prog X.w) A (call (.ref f) us) (EP X pins σ Q) X.xe s := by
  have e0 : Env0 X.prog X.w X.K X.mg X.base A X.stack s H := by
    have e := I.env0
    exact ⟨by rw [sb.fr]; exact e.frames, e.mod, e.bs, e.bsz, e.funs, e.frf, e.hok, e.bare⟩
  have hl := F.len _ _ _ _ hsp
  refine wpAny_call (codeAny_mono (F.run A X.stack s H ⟨us, []⟩ us vs Q E sb.room e0 (by
    have := hb s us I.kIn (by rw [List.append_nil, ← rv.length]; exact hl)
    simpa using this) rv hsp) fun r s' hq => ?_)
  cases r with
  | error e => exact hx pins σ H s e s' I hq
  | ok fl =>
    cases fl with
    | ret w => exact I.after hq
    | next => exact False.elim hq
    | brk => exact False.elim hq
    | cont => exact False.elim hq
/-- the class at C has this def under this name -/
structure Dun (K : PySem.W.Frag) (C f : Addr) (name : Str) : Prop where
  at_ : PySem.W.findIn K (.ref C) name = some (some (.ref f))
  fn : PySem.W.isFn K (.ref f) = true
  fin : PySem.W.fnIn K f = true
theorem unlessNone_fn {M : Model} {A : Around} {s : Shared} {K : PySem.W.Frag} {x : Addr} {ox : Obj} {od : Option Obj} {name : Str} {args : List Value} {refuse : Sem Value} {Er : Value → Shared → Prop} {Q : Option Value → Shared → Prop} (kin : K.In s.heap) (J : PySem.W.InstAt s.heap x ox C od) (D : Dun K C f name)
    (h : wpAny M A (call (.ref f) (.ref x :: args)) (fun v => Q (some v)) Er s) : wpAny M A (callSpecialUnlessNone? (.ref x) name args refuse) Q Er s := by
  refine wpAny_bind (wpAny_bind (J.type.here ((PySem.W.looks_findIn kin D.at_).here (wpAny_holding (wpAny_bind ((PySem.W.bind_fn kin _ (beq_iff_eq.mp D.fn)).here ?_))))))
  show wpAny M A (if (Value.ref f == Value.none) = true then (refuse >>= fun v => pure (some v)) else (call (.ref f) ([.ref x] ++ args) >>= fun v => pure (some v))) Q Er s
  rw [if_neg (show ¬ ((Value.ref f == Value.none) = true) from Bool.false_ne_true)]
  exact wpAny_bind (wpAny_mono h (fun _ _ z => wpAny_pure z) fun _ _ z => z)
/-! ### x in o, x not in o -/
def rInOwn (C : Addr) (sp : Sp) (E : XK) (neg : Bool) : R2 := fun x y H Q => ∃ a dx fs, y = .ref a ∧ H a = some (.ins C dx fs) ∧ sp [.ref a, x] H (fun v G => ∃ b : Bool, v = .bl b ∧ Q (.bl (if neg = true then !b else b)) G) E
theorem contains_own {pins : List (Addr × Obj)} {s : Shared} {σ : L2.St} {H : Hp} {a dx : Addr} {fs : List (Str × V)} {x : V} {u : Value} {R : Bool → Shared → Prop} {Q : VK} (F : FnOk X.prog X.w X.K X.mg X.base CX k f fd ps sp) (hr : Room k X.A) (hb : Binds X.K fd ps []) (hx : Passes CX X E) (D : Dun X.K C f "__contains__")
    (I : Inv X pins σ H s) (rx : RelV x u) (ha : H a = some (.ins C dx fs)) (hsp : sp [.ref a, x] H (fun v G => ∃ b : Bool, v = .bl b ∧ Q (.bl b) G) E) (q : ∀ b H' s', Inv X pins σ H' s' → Q (.bl b) H' → R b s') : wpAny (model X.prog X.w) X.A (contains (.ref a) u) R X.xe s := by
  obtain ⟨mA, J, _⟩ := ins_get I.hok ha
  obtain ⟨od, J, _⟩ := J.look
  unfold contains
  refine wpAny_holding ?_
  show wpAny _ _ (specialOf (.ref a) "__contains__" >>= _) _ _ _
  refine wpAny_bind (wpAny_bind (J.type.here ((PySem.W.looks_findIn I.kIn D.at_).here ?_)))
  show wpAny _ _ (if (some (Value.ref f) == some Value.none) = true then _ else _) _ _ s
  rw [if_neg (show ¬ ((some (Value.ref f) == some Value.none) = true) from Bool.false_ne_true)]
  refine wpAny_bind (unlessNone_fn I.kIn J D (wpAny_mono (own_call (vs := [.ref a, x]) F ⟨hr, rfl⟩ hb hx I (.cons rfl (.cons rx .nil)) hsp) (fun r s' z => ?_) fun _ _ e => e))
  obtain ⟨v, H', I', rv, b, rfl, z⟩ := z
  cases (show r = Value.bool b from rv)
  exact wpAny_truthy_bool (q b H' s' I' z)
theorem op_inOwn (F : FnOk X.prog X.w X.K X.mg X.base CX k f fd ps sp) (hr : Room k X.A) (hb : Binds X.K fd ps []) (hx : Passes CX X E) (D : Dun X.K C f "__contains__") : OpR X (compareOp .In) (rInOwn C sp E false) := by
  intro pins s σ H x y v u Q I rx ry h
  obtain ⟨a, dx, fs, rfl, ha, hsp⟩ := h
  cases (show u = Value.ref a from ry)
  show wpAny _ _ (contains (.ref a) v >>= fun b => pure (Value.bool b)) _ _ s
  exact wpAny_bind (contains_own F hr hb hx D I rx ha hsp fun b H' s' I' z => wpAny_pure ⟨.bl b, H', I', rfl, z⟩)
theorem op_notInOwn (F : FnOk X.prog X.w X.K X.mg X.base CX k f fd ps sp) (hr : Room k X.A) (hb : Binds X.K fd ps []) (hx : Passes CX X E) (D : Dun X.K C f "__contains__") : OpR X (compareOp .NotIn) (rInOwn C sp E true) := by
  intro pins s σ H x y v u Q I rx ry h
  obtain ⟨a, dx, fs, rfl, ha, hsp⟩ := h
  cases (show u = Value.ref a from ry)
  show wpAny _ _ (contains (.ref a) v >>= fun b => pure (Value.bool (!b))) _ _ s
  exact wpAny_bind (contains_own (Q := fun w G => ∃ b, w = .bl b ∧ Q (.bl (!b)) G) F hr hb hx D I rx ha (by
    have e : (fun (v : V) (G : Hp) => ∃ b : Bool, v = .bl b ∧ ∃ c, V.bl b = .bl c ∧ Q (.bl (!c)) G) = fun v G => ∃ b : Bool, v = .bl b ∧ Q (.bl (if true = true then !b else b)) G := by
      funext v G
      apply propext
      constructor
      · rintro ⟨b, e, c, e2, q⟩
        cases e2
        exact ⟨b, e, q⟩
      · rintro ⟨b, e, q⟩
        exact ⟨b, e, b, rfl, q⟩
    rw [e]
    exact hsp) fun b H' s' I' z => by
      obtain ⟨c, e, z⟩ := z
      cases e
      exact wpAny_pure ⟨.bl (!b), H', I', rfl, z⟩)
/-! ### len(o) -/
def rLenOwn (C : Addr) (sp : Sp) (E : XK) : List V → Hp → VK → Prop := fun xs H Q => ∃ a dx fs, xs = [.ref a] ∧ H a = some (.ins C dx fs) ∧ sp [.ref a] H (fun v G => ∃ n : Int, v = .int n ∧ 0 ≤ n ∧ n < 2 ^ 63 ∧ Q (.int n) G) E
theorem call_lenOwn (F : FnOk X.prog X.w X.K X.mg X.base CX k f fd ps sp) (hr : Room (k + 1) X.A) (hb : Binds X.K fd ps []) (hx : Passes CX X E) (D : Dun X.K C f "__len__") : CallR X (.builtin "len") (rLenOwn C sp E) := by
  intro pins s σ H xs us Q I rv h
  obtain ⟨a, dx, fs, rfl, ha, hsp⟩ := h
  obtain ⟨u, rfl, ru⟩ := rv.one
  cases (show u = Value.ref a from ru)
  obtain ⟨mA, J, _⟩ := ins_get I.hok ha
  obtain ⟨od, J, _⟩ := J.look
  obtain ⟨m, hF⟩ := I.fr
  refine PySem.W.len_K hF I.ok.mod.kin J D.at_ D.fn (wpAny_mono (own_call (vs := [.ref a]) F (Sub.in1 (⟨hr, rfl⟩ : Sub X (k + 1) X.A)) hb hx I (.cons rfl .nil) hsp) (fun r s' z => ?_) fun _ _ e => e)
  obtain ⟨v, H', I', rv', n, rfl, h0, h1, z⟩ := z
  obtain ⟨t, rfl⟩ := rv'
  exact ⟨⟨h0, h1⟩, .int n, H', I'.kept (t' := s'.toks + 1) (fun _ _ e => e), ⟨s'.toks, rfl⟩, z⟩
/-! ### o[i] -/
def rIxOwn (C : Addr) (sp : Sp) (E : XK) : R2 := fun x y H Q => ∃ a dx fs, x = .ref a ∧ H a = some (.ins C dx fs) ∧ sp [.ref a, y] H Q E
theorem pe_ixOwn {a b : Expr} {ta tb : TE} {pos : Pos} (F : FnOk X.prog X.w X.K X.mg X.base CX k f fd ps sp) (hr : Room (k + 1) X.A) (hb : Binds X.K fd ps []) (hx : Passes CX X E) (D : Dun X.K C f "__getitem__") (ea : PE X a ta) (eb : PE X b tb)
    (hsl : ∀ o i, subscripted b true o i = runValue (.builtin "lifetime.subscript" ⟨[o, i], []⟩) := by intro _ _; with_unfolding_all rfl) : PE X (.Subscript a b pos) (tOp (rIxOwn C sp E) ta tb) := by
  refine ⟨fun pins s σ H Q I h => ?_⟩
  refine Subscript_ (binT ea eb I h fun v u s2 x y H2 I2 rx ry q => ?_)
  obtain ⟨o, dx, fs, rfl, ha, hsp⟩ := q
  cases (show v = Value.ref o from rx)
  obtain ⟨mA, J, _⟩ := ins_get I2.hok ha
  obtain ⟨od, J, _⟩ := J.look
  obtain ⟨m, hF⟩ := I2.fr
  exact PySem.W.sub_K hF I2.ok.mod.kin J D.at_ D.fin D.fn (own_call (vs := [.ref o, y]) F (Sub.in1 (⟨hr, rfl⟩ : Sub X (k + 1) X.A)) hb hx I2 (.cons rfl (.cons ry .nil)) hsp) (hsl _ _)
/-! ### str(o) -/
def rStrOwn (C : Addr) (sp : Sp) (E : XK) : List V → Hp → VK → Prop := fun xs H Q => ∃ a dx fs, xs = [.ref a] ∧ H a = some (.ins C dx fs) ∧ sp [.ref a] H (fun v G => ∃ z : Str, v = .str z ∧ Q (.str z) G) E
theorem call_strOwn (F : FnOk X.prog X.w X.K X.mg X.base CX k f fd ps sp) (hr : Room (k + 2) X.A) (hb : Binds X.K fd ps []) (hx : Passes CX X E) (D : Dun X.K C f "__str__") : CallR X (.type "str") (rStrOwn C sp E) := by
  intro pins s σ H xs us Q I rv h
  obtain ⟨a, dx, fs, rfl, ha, hsp⟩ := h
  obtain ⟨u, rfl, ru⟩ := rv.one
  cases (show u = Value.ref a from ru)
  obtain ⟨mA, J, _⟩ := ins_get I.hok ha
  obtain ⟨od, J, _⟩ := J.look
  have sb : Sub X k X.A.in1.in1 := Sub.in1 (Sub.in1 (⟨hr, rfl⟩ : Sub X (k + 2) X.A))
  refine PySem.W.kso_call sb.room.units0 I.kIn J D.at_ D.fn (wpAny_mono (own_call (vs := [.ref a]) F sb hb hx I (.cons rfl .nil) hsp) (fun r s' z => ?_) fun _ _ e => e)
  obtain ⟨v, H', I', rv', y, rfl, z⟩ := z
  obtain ⟨t, rfl⟩ := rv'
  exact ⟨.str y, H', I', ⟨t, rfl⟩, z⟩
/-! ### o == x, o != x -/
def rEqOwn (C : Addr) (sp : Sp) (E : XK) (neg : Bool) (K : PySem.W.Frag) : R2 := fun x y H Q => ∃ a dx fs t, x = .ref a ∧ H a = some (.ins C dx fs) ∧ TyX K H y t ∧ PySem.W.notFirst K C t = true ∧ sp [.ref a, y] H (fun v G => ∃ b : Bool, v = .bl b ∧ Q (.bl (if neg = true then !b else b)) G) E
theorem op_eqOwn (F : FnOk X.prog X.w X.K X.mg X.base CX k f fd ps sp) (hr : Room k X.A) (hb : Binds X.K fd ps []) (hx : Passes CX X E) (D : Dun X.K C f "__eq__") : OpR X (compareOp .Eq) (rEqOwn C sp E false X.K) := by
  intro pins s σ H x y v u Q I rx ry h
  obtain ⟨a, dx, fs, t, rfl, ha, ty, nf, hsp⟩ := h
  cases (show v = Value.ref a from rx)
  obtain ⟨mA, J, _⟩ := ins_get I.hok ha
  obtain ⟨od, J, _⟩ := J.look
  obtain ⟨m, hF⟩ := I.fr
  obtain ⟨Pk, kx, hp, _⟩ := kit_of I ry ty
  refine PySem.W.cmp_K (op := .Eq) (tb := t) hr.units0 hF I.ok.mod.kin J (kx.ty _ _ I.kIn hp) nf D.at_ D.fn (wpAny_mono (own_call (vs := [.ref a, y]) F ⟨hr, rfl⟩ hb hx I (.cons rfl (.cons ry .nil)) hsp) (fun r s' z => ?_) fun _ _ e => e)
  obtain ⟨z, H', I', rv, b, rfl, q⟩ := z
  cases (show r = Value.bool b from rv)
  exact ⟨.bl b, H', I', rfl, q⟩
theorem ifBound_slot {M : Model} {A : Around} {s : Shared} {K : PySem.W.Frag} {x : Addr} {ox : Obj} {od : Option Obj} {name : Str} {id : String} {args : List Value} {Er : Value → Shared → Prop} {Q : Option Value → Shared → Prop} (kin : K.In s.heap) (J : PySem.W.InstAt s.heap x ox C od)
    (hs : PySem.W.findIn K (.ref C) name = some (some (.builtin id))) (hb : ∀ self, bindSpecial (.builtin id) self = pure (.builtin id, [self])) (h : wpAny M A (call (.builtin id) (.ref x :: args)) (fun v => Q (some v)) Er s) : wpAny M A (callSpecialIfBound? (.ref x) name args) Q Er s := by
  simp only [callSpecialIfBound?, bindSpecialIfBound?]
  refine wpAny_holding (wpAny_bind (wpAny_bind (wpAny_bind (J.type.here ((PySem.W.looks_findIn kin hs).here ?_)))))
  refine wpAny_bind (wpAny_askSetting (wpAny_ite ?_))
  have fin : wpAny M A (call (.builtin id) ([.ref x] ++ args) >>= fun v => pure (some v)) Q Er s := wpAny_bind (wpAny_mono h (fun v s' h' => wpAny_pure h') fun _ _ h' => h')
  simp only [hb]
  split
  · exact wpAny_bind (wpAny_pure (wpAny_pure (by exact fin)))
  · exact wpAny_tryCatch (wpAny_bind (wpAny_pure (wpAny_pure (by exact fin))))
/-- the class at C has object's own != -/
structure NeObj (K : PySem.W.Frag) (C : Addr) : Prop where
  at_ : PySem.W.findIn K (.ref C) "__ne__" = some (some (.builtin "object.__ne__"))
  obj : PySem.W.mroIn K C (.type "object") = some true
theorem ne_own {A : Around} {s : Shared} {K : PySem.W.Frag} {prog : Program} {w : World} {a : Addr} {ox : Obj} {od : Option Obj} {u tb : Value} {h₀ : Heap} {L : Addr} {m : Str → Option Value} {Er : Value → Shared → Prop} {Q : Value → Shared → Prop} (hu : A.units < cLine) (hu1 : A.in1.units < cLine) (hF : Fr h₀ L s.heap m) (X₀ : K.In h₀) (J : PySem.W.InstAt s.heap a ox C od)
    (hb : PySem.W.Looks (model prog w) s.heap (typeOf u) tb) (hn : PySem.W.notFirst K C tb = true) (N : NeObj K C) (D : Dun K C f "__eq__")
    (h : wpAny (model prog w) A.in1 (call (.ref f) [.ref a, u]) (fun r s' => ∃ b, r = .bool b ∧ Q (.bool (!b)) s') Er s) : wpAny (model prog w) A (richCompare .NotEq (.ref a) u) Q Er s := by
  have kin := X₀.keeps hF.keep
  have one : wpAny (model prog w) A (tryCompare (.ref a) "__ne__" u) (fun r s' => ∃ v, r = some v ∧ Q v s') Er s := by
    unfold tryCompare
    refine wpAny_bind (ifBound_slot kin J N.at_ PySem.F.cmp_object.ne.bind (wpAny_call (codeAny_call_builtin PySem.F.cmp_object.ne.plain PySem.F.cmpEntry_ne
      (PySem.W.check_slot (i := "object.__ne__") (owner := "object") (n := "__ne__") PySem.F.cmpKind_ne PySem.F.cmpSplit_ne (J.type.andThen (PySem.W.looks_mroIn kin N.obj)) (PySem.F.cmpArgs_ne _ _) ?_))))
    unfold Builtin.«object.__ne__»
    refine wpAny_bind (m := slotArgs "__ne__" 1 _) (wpAny_pure ?_)
    refine wpAny_bind (wpAny_cRoomFor hu1 ?_)
    refine wpAny_bind (m := callSpecialIfBound? (.ref a) (Str.ofString "__eq__") [u]) (PySem.W.ifBound_K kin J D.at_ D.fn (wpAny_mono h (fun r s' z => ?_) fun _ _ e => e))
    obtain ⟨b, rfl, q⟩ := z
    refine wpAny_bind (m := truthy (.bool b)) (wpAny_truthy_bool ?_)
    exact wpAny_pure (wpAny_pure ⟨_, rfl, q⟩)
  unfold richCompare
  simp only [oneThing_ref]
  refine wpAny_holding (wpAny_bind (wpAny_cRoomFor hu ?_))
  refine wpAny_bind (J.type.here (wpAny_bind (hb.here ?_)))
  split
  · rename_i q
    have e : PySem.W.subIn K tb (.ref C) = some false := by
      rcases Bool.or_eq_true_iff.mp hn with e | e
      · rw [beq_iff_eq.mp e] at q; simp at q
      · exact beq_iff_eq.mp e
    refine wpAny_bind ((PySem.W.looks_subIn kin e).here ?_)
    simp only [Bool.false_eq_true, if_false]
    refine wpAny_bind (wpAny_mono one (fun r s' z => ?_) fun _ _ e => e)
    obtain ⟨v, rfl, hq⟩ := z
    exact wpAny_pure hq
  · refine wpAny_bind (wpAny_pure ?_)
    simp only [Bool.false_eq_true, if_false]
    refine wpAny_bind (wpAny_mono one (fun r s' z => ?_) fun _ _ e => e)
    obtain ⟨v, rfl, hq⟩ := z
    exact wpAny_pure hq
theorem op_neOwn (F : FnOk X.prog X.w X.K X.mg X.base CX k f fd ps sp) (hr : Room (k + 1) X.A) (hb : Binds X.K fd ps []) (hx : Passes CX X E) (D : Dun X.K C f "__eq__") (N : NeObj X.K C) : OpR X (compareOp .NotEq) (rEqOwn C sp E true X.K) := by
  intro pins s σ H x y v u Q I rx ry h
  obtain ⟨a, dx, fs, t, rfl, ha, ty, nf, hsp⟩ := h
  cases (show v = Value.ref a from rx)
  obtain ⟨mA, J, _⟩ := ins_get I.hok ha
  obtain ⟨od, J, _⟩ := J.look
  obtain ⟨m, hF⟩ := I.fr
  obtain ⟨Pk, kx, hp, _⟩ := kit_of I ry ty
  have sb : Sub X k X.A.in1 := Sub.in1 (⟨hr, rfl⟩ : Sub X (k + 1) X.A)
  refine ne_own (tb := t) hr.units0 sb.room.units0 hF I.ok.mod.kin J (kx.ty _ _ I.kIn hp) nf N D (wpAny_mono (own_call (vs := [.ref a, y]) F sb hb hx I (.cons rfl (.cons ry .nil)) hsp) (fun r s' z => ?_) fun _ _ e => e)
  obtain ⟨z, H', I', rv, b, rfl, q⟩ := z
  cases (show r = Value.bool b from rv)
  exact ⟨b, rfl, .bl (!b), H', I', rfl, q⟩
end
/-! ### iter(t) of a tuple; for x in o -/
def itT (t : Addr) (i : Nat) : Obj := { cls := .type "tuple_iterator", data := .fields #[.ref t, .int i 0] }
def TitO (t it : Addr) : HO := .ext fun h => h.get? it = some (itT t 0)
theorem titO_ok {P : Program} {w : World} {H : Hp} {h : Heap} {t it : Addr} (e : h.get? it = some (itT t 0)) : ObjOk P w H h it (TitO t it) := ⟨e, ⟨_, e⟩, fun h1 h2 q k => k _ q⟩
theorem run_iterT {prog : Program} {w : World} {A : Around} {E : Value → Shared → Prop} {s : Shared} {t : Addr} {items : Array Value} {Q : Value → Shared → Prop} (hl : s.heap.IsTuple t items) (h : Q (.ref s.heap.objs.size) { s with heap := s.heap.push (itT t 0) }) : wpAny (model prog w) A (call (.builtin "iter") [.ref t]) Q E s := by
  refine Calls.call_function_entry (by decide +kernel) (by decide +kernel) PySem.W.kdk_entry_iter (PySem.W.kdk_args_iter _) ?_
  unfold Builtin.«iter»
  refine wpAny_bind (m := someArgs "iter" 1 2 _) (wpAny_of_eq (a := [Value.ref t]) (by first | rfl | kernel_rfl!) ?_)
  show wpAny _ _ (pyIter (.ref t) >>= _) _ _ _
  refine wpAny_bind (wpAny_pyIter_tuple hl ?_)
  exact wpAny_pure ⟨_, rfl, h⟩
def rIterT (K : PySem.W.Frag) (n : Nat) : List V → Hp → VK → Prop := fun xs H Q => ∃ (t : Addr) (zs : List V), xs = [.ref t] ∧ SqT K H t zs ∧ ∀ it, H it = none → n ≤ it → Q (.ref it) (upd H it (TitO t it))
theorem call_iterT {X : Cx} : CallR X (.builtin "iter") (rIterT X.K X.s_0.heap.objs.size) := by
  intro pins s σ H xs us Q I r h
  obtain ⟨t, zs, rfl, hq, q⟩ := h
  obtain ⟨u, rfl, ru⟩ := vals1 r
  cases (show u = Value.ref t from ru)
  obtain ⟨its, rv, pl, hz⟩ := I.tuple hq
  refine run_iterT pl ?_
  exact ⟨.ref s.heap.objs.size, _, I.laid (t' := s.toks) (fun b u e => Heap.get?_push_of_some _ e) (Nat.le_refl _) (titO_ok (Heap.get?_push_size _ rfl)), rfl, q _ (I.hok.fresh (Nat.le_refl _)) I.sz⟩
/-- as FnOk, the promise knows how many objects there are at the call -/
structure FnS (P : Program) (w : World) (K : PySem.W.Frag) (mg : Str → Option Value) (base : Heap) (CX : CXT) (k : Nat) (f : Addr) (fd : FuncData) (ps : List Str) (sp : Nat → Sp) : Prop where
  lenS : ∀ n us H Q E, sp n us H Q E → us.length = ps.length
  runS : ∀ (B : Around) (fs : List Env) (t : Shared) (H : Hp) (as : Args) (ws : List Value) (us : List V) (Q : VK) (E : XK), Room k B → Env0 P w K mg base B fs t H →
    BindsTo t fd as (ps.zip ws) → Vals us ws → sp t.heap.objs.size us H Q E → codeAny (model P w) B (.call (.ref f) as) (CR CX fs P w H t Q E) t
theorem fnS_ok {P : Program} {w : World} {K : PySem.W.Frag} {mg : Str → Option Value} {base : Heap} {CX : CXT} {x qual : Str} {st : Stmt} {f : Addr} {fd : FuncData} {N ps : List Str} {k : Nat} {sp : Nat → Sp} (F : Fun K x qual st f fd) (S : FnScope N ps (defScope st)) (hl : ∀ n us H Q E, sp n us H Q E → us.length = ps.length)
    (hb : ∀ (cd : Value) (B : Around) (fs : List Env) (t : Shared) (H : Hp) (us : List V) (Q : VK) (E : XK), Room k (B.deeper (envOfC qual (defScope st) t.heap.objs.size f cd)) → sp t.heap.objs.size us H Q E →
      ∃ r, PSs (cxOf CX P w K mg base N qual (defScope st) f cd B fs t H E).nox (defBody st) r ∧ r { nx := fun _ G => Q .non G, rt := Q } (start N us) H) : FnS P w K mg base CX (k + 1) f fd ps sp := by
  obtain ⟨oc, od, kV, doc, pm, an, cd, ct, osl, rfl, lk, hc⟩ := F.ex
  constructor
  · exact hl
  intro B fs t H as ws us Q E hr e0 hbd hv hq
  have e0b := e0.bs
  have inK : K.In t.heap := e0.mod.kin.keeps fun b o z => (e0b b o z).1
  have few := hl _ _ _ _ _ hq
  refine codeAny_call_function hr.depth (inK _ _ lk) rfl S.co S.gen rfl (PySem.W.codeRec_of inK hc) (hbd _ _ _ _ ?_)
  apply wpAny_newFunctionEnv_cells S.kind
  · rintro ⟨n, u⟩ hy
    cases S.par n (List.of_mem_zip hy).1 with
    | inl z => exact Or.inl z
    | inr z => exact Or.inr ⟨z, PySem.W.cellsFrom_some _ _ _ (Or.inl z)⟩
  intro env he t1 hx
  subst he
  constructor
  · exact Heap.NoLimit.keeps (e0.mod.nolimit.keeps fun b o z => (e0b b o z).1) hx.toInCall.keep
  apply codeAny_func
  obtain ⟨r, hpss, hrd⟩ := hb cd B fs t H us Q E (hr.deeper _) hq
  have J := inv_start (CX := CX) (E := E) S hr.hd e0 few hv hx
  apply wpAny_mono (hpss.nox.run [] t1 (start N us) H _ J hrd)
  · intro fl t2 h2
    cases fl with
    | next =>
      obtain ⟨σ2, G, J2, z⟩ := h2
      exact ⟨V.non, G, J2.os, J2.bare, J2.base, J2.hok, (rfl : Value.none = Value.none), z⟩
    | ret u =>
      obtain ⟨v, σ2, G, J2, rv, z⟩ := h2
      exact ⟨v, G, J2.os, J2.bare, J2.base, J2.hok, rv, z⟩
    | brk => exact (h2.elim fun _ h3 => h3.elim fun _ h4 => h4.2).elim
    | cont => exact (h2.elim fun _ h3 => h3.elim fun _ h4 => h4.2).elim
  · intro _ _ z
    exact z
section
variable {X : Cx} {CX : CXT} {k : Nat} {f : Addr} {fd : FuncData} {ps : List Str} {E : XK} {C : Addr}
theorem own_callS {sp : Nat → Sp} {A : Around} {pins : List (Addr × Obj)} {s : Shared} {σ : L2.St} {H : Hp} {vs : List V} {us : List Value} {Q : VK} (F : FnS X.prog X.w X.K X.mg X.base CX k f fd ps sp) (sb : Sub X k A) (hb : Binds X.K fd ps []) (hx : Passes CX X E)
    (I : Inv X pins σ H s) (rv : Vals vs us) (hsp : sp s.heap.objs.size vs H Q E) : wpAny (model X.prog X.w) A (call (.ref f) us) (EP X pins σ Q) X.xe s := by
  have e0 : Env0 X.prog X.w X.K X.mg X.base A X.stack s H := by
    have e := I.env0
    exact ⟨by rw [sb.fr]; exact e.frames, e.mod, e.bs, e.bsz, e.funs, e.frf, e.hok, e.bare⟩
  have hl := F.lenS _ _ _ _ _ hsp
  refine wpAny_call (codeAny_mono (F.runS A X.stack s H ⟨us, []⟩ us vs Q E sb.room e0 (by
    have := hb s us I.kIn (by rw [List.append_nil, ← rv.length]; exact hl)
    simpa using this) rv hsp) fun r s' hq => ?_)
  cases r with
  | error e => exact hx pins σ H s e s' I hq
  | ok fl =>
    cases fl with
    | ret w => exact I.after hq
    | next => exact False.elim hq
    | brk => exact False.elim hq
    | cont => exact False.elim hq
/-- __iter__ that hands back iter(..) of a tuple -/
def spIterT (K : PySem.W.Frag) (C : Addr) (G : Addr → Hp → Addr → List V → Prop) : Nat → Sp := fun n vs H Q _ => ∃ a t xs, vs = [.ref a] ∧ G a H t xs ∧ SqT K H t xs ∧ ∀ it, H it = none → n ≤ it → Q (.ref it) (upd H it (TitO t it))
def iOwn (K : PySem.W.Frag) (C : Addr) (G : Addr → Hp → Addr → List V → Prop) (te : TE) : TI := fun σ H R => te σ H fun x H1 => ∃ a dx fs t xs, x = .ref a ∧ H1 a = some (.ins C dx fs) ∧ G a H1 t xs ∧ SqT K H1 t xs ∧ R (Itt K t) H1
open ItX in
theorem pi_own {tg e : Expr} {te : TE} {G : Addr → Hp → Addr → List V → Prop} (he : PE X e te) (F : FnS X.prog X.w X.K X.mg X.base CX k f fd ps (spIterT X.K C G)) (hr : Room k X.A) (hb : Binds X.K fd ps []) (hx : Passes CX X (fun _ _ _ => False)) (D : Dun X.K C f "__iter__") : PI X tg e (iOwn X.K C G te) := by
  refine ⟨fun pins s σ H R I h => ?_⟩
  refine thn (he.run pins s σ H _ I h) fun u s1 ⟨v, H1, I1, r1, a, dx, fs, t, xs, ev, ha, hG, hS, q⟩ => ?_
  subst ev
  cases (show u = Value.ref a from r1)
  obtain ⟨mA, J, _⟩ := ins_get I1.hok ha
  obtain ⟨od, J, _⟩ := J.look
  obtain ⟨m, hF⟩ := I1.fr
  refine PySem.W.owit_iter hF I1.ok.mod.kin J D.at_ D.fn (wpAny_mono (own_callS (vs := [.ref a]) (Q := fun v G => ∃ it, v = .ref it ∧ H1 it = none ∧ s1.heap.objs.size ≤ it ∧ G = upd H1 it (TitO t it)) (E := fun _ _ _ => False) F ⟨hr, rfl⟩ hb hx I1 (.cons rfl .nil) ⟨a, t, xs, rfl, hG, hS, fun it n1 n2 => ⟨it, rfl, n1, n2, rfl⟩⟩) (fun r s' z => ?_) fun _ _ e => e)
  obtain ⟨v, H', I', rv, it, rfl, n1, n2, rfl⟩ := z
  cases (show r = Value.ref it from rv)
  have eo : s'.heap.get? it = some (itT t 0) := (I'.hok it _ upd_same).1
  have hT : s'.TypeIs (.ref it) "tuple_iterator" := ⟨_, eo, rfl⟩
  unfold PySem.W.OwitIt
  refine wpAny_specialOf (name := Str.ofString "__next__") hT slot_tupleiter_next.lookup ?_
  have hd : dropH (upd H1 it (TitO t it)) it = H1 := dropH_upd n1
  refine ⟨it, [it], _, _, dropH (upd H1 it (TitO t it)) it, rfl, inv_drop I' upd_same, turn_tuple t it, ⟨_, eo, rfl, rfl⟩, fun b hb' => ?_, ?_⟩
  · have e : b = it := by simpa using hb'
    rw [e]
    exact inv_fp I' upd_same (Nat.le_trans I1.sz n2)
  · rw [hd]
    exact q
end
end Gd

set_option Elab.async false
set_option linter.all false
set_option maxRecDepth 100000
set_option maxHeartbeats 4000000
/-! De: dicts compared, whatever the answer: values are data or dicts again. -/
namespace Gd
open PySem PySem.Spec PyProof.Rows L2
/-- the answer of two dicts' ==, e says what of the values under one key -/
def eqDs (ks ls : List (Key × V)) (e : Key → Bool) : Bool := ks.length == ls.length && ks.all fun p => (valV ls p.1).isSome && e p.1
/-- x == y answers b; dicts at most n deep -/
inductive Eq3 (K : PySem.W.Frag) (H : Hp) : Nat → V → V → Bool → Prop
  | data {n : Nat} {x y : V} {d e : PyData} : Dp K H x d → Dp K H y e → d.plain = true → e.plain = true → d.depth ≤ 64 → Eq3 K H n x y (PyData.eqv d e)
  | dict {n : Nat} {a b : Addr} {ks ls : List (Key × V)} {e : Key → Bool} : H a = some (.dK ks) → H b = some (.dK ls) → (∀ k v y, (k, v) ∈ ks → valV ls k = some y → Eq3 K H n v y (e k)) → (a = b → eqDs ks ls e = true) → Eq3 K H (n + 1) (.ref a) (.ref b) (eqDs ks ls e)
theorem kv_all {ls : List (Key × V)} {vb : List (Key × Value)} (rb : KV ls vb) (e : Key → Bool) {ks : List (Key × V)} {va : List (Key × Value)} (ra : KV ks va) : (va.all fun p => (valueAt vb p.1).isSome && e p.1) = ks.all fun p => (valV ls p.1).isSome && e p.1 := by
  unfold KV at ra
  induction ra with
  | nil => rfl
  | @cons p q ps qs h t ih =>
    rw [List.all_cons, List.all_cons, ih, h.1]
    have z := rb.val q.1
    congr 2
    cases h1 : valV ls q.1 <;> cases h2 : valueAt vb q.1 <;> rw [h1, h2] at z <;> first | rfl | exact (show False from z).elim
theorem kv_mem {ks : List (Key × V)} {va : List (Key × Value)} (ra : KV ks va) {k : Key} {v : Value} (h : (k, v) ∈ va) : ∃ x, (k, x) ∈ ks ∧ RelV x v := by
  unfold KV at ra
  induction ra with
  | nil => cases h
  | @cons p q ps qs h' t ih =>
    rcases List.mem_cons.mp h with e | h
    · obtain ⟨pk, px⟩ := p
      subst e
      have e1 : pk = k := h'.1
      subst e1
      exact ⟨px, List.mem_cons_self, h'.2⟩
    · obtain ⟨x, h1, h2⟩ := ih h
      exact ⟨x, List.mem_cons_of_mem _ h1, h2⟩
theorem relO_some {o : Option V} {y : Value} (h : RelO o (some y)) : ∃ x, o = some x ∧ RelV x y := by
  cases o with
  | none => exact (show False from h).elim
  | some x => exact ⟨x, rfl, h⟩
section
variable {X : Cx} {pins : List (Addr × Obj)} {σ : L2.St} {H : Hp} {s : Shared}
theorem Eq3.tree (I : Inv X pins σ H s) {n : Nat} {x y : V} {b : Bool} (h : Eq3 X.K H n x y b) : ∀ {v u : Value}, RelV x v → RelV y u → PySem.W.EqTree X.prog X.w s (n + 66) v u b := by
  induction h with
  | data hd he sd se dp =>
    intro v u rx ry
    obtain ⟨as, r1⟩ := Dp.reads I _ _ v hd rx
    obtain ⟨bs, r2⟩ := Dp.reads I _ _ u he ry
    exact .leaf fun A hu => SeqAt.eqAt_plain _ _ A s v u as bs r1 r2 sd se (Nat.lt_of_le_of_lt (Nat.add_le_add_left (Nat.le_trans (Nat.min_le_left _ _) dp) _) (by omega))
  | @dict n a b ks ls e ha hb hv hs ih =>
    intro v u rx ry
    cases (show v = Value.ref a from rx)
    cases (show u = Value.ref b from ry)
    by_cases q : a = b
    · rw [hs q, q]
      exact .same
    · obtain ⟨_, ya, va, ra, da⟩ := (show ObjOk X.prog X.w H s.heap a (.dK ks) from I.hok a _ ha)
      obtain ⟨_, yb, vb, rb, db⟩ := (show ObjOk X.prog X.w H s.heap b (.dK ls) from I.hok b _ hb)
      have t := PySem.W.EqTree.dicts (prog := X.prog) (w := X.w) (knd := mixKind X.prog X.w) (n := n + 66) (e := e) q ya yb da db fun k v' y' hm hy => by
        obtain ⟨x, hx, rx'⟩ := kv_mem ra hm
        have z := rb.val k
        rw [hy] at z
        obtain ⟨yv, hyv, ry'⟩ := relO_some z
        exact ih k x yv hx hyv rx' ry'
      rw [kv_all rb e ra, ← ra.length, ← rb.length] at t
      have e2 : n + 66 + 1 = n + 1 + 66 := by omega
      rw [e2] at t
      exact t
def rEq3 (K : PySem.W.Frag) : R2 := fun x y H Q => ∃ (n : Nat) (a b : Addr) (ks ls : List (Key × V)) (e : Key → Bool), n ≤ 60 ∧ x = .ref a ∧ y = .ref b ∧ H a = some (.dK ks) ∧ H b = some (.dK ls) ∧ (∀ k v y, (k, v) ∈ ks → valV ls k = some y → Eq3 K H n v y (e k)) ∧ Q (.bl (eqDs ks ls e)) H
theorem op_eq3 (hu : X.A.units + 200 < cLine) : OpR X (compareOp .Eq) (rEq3 X.K) := by
  intro pins s σ H x y v u Q I rx ry h
  obtain ⟨n, a, b, ks, ls, e, hn, rfl, rfl, ha, hb, hv, q⟩ := h
  cases (show v = Value.ref a from rx)
  cases (show u = Value.ref b from ry)
  obtain ⟨_, ya, va, ra, da⟩ := (show ObjOk X.prog X.w H s.heap a (.dK ks) from I.hok a _ ha)
  obtain ⟨_, yb, vb, rb, db⟩ := (show ObjOk X.prog X.w H s.heap b (.dK ls) from I.hok b _ hb)
  refine PySem.W.eq_dictsT (knd := mixKind X.prog X.w) (n := n + 66) (e := e) ya yb da db (fun k v' y' hm hy => ?_) (by omega) ?_
  · obtain ⟨x, hx, rx'⟩ := kv_mem ra hm
    have z := rb.val k
    rw [hy] at z
    obtain ⟨yv, hyv, ry'⟩ := relO_some z
    exact (hv k x yv hx hyv).tree I rx' ry'
  · rw [kv_all rb e ra, ← ra.length, ← rb.length]
    exact ⟨.bl _, H, I, rfl, q⟩
/-- d != {} -/
def rNe0 : R2 := fun x y H Q => ∃ (a b : Addr) (ks : List (Key × V)), x = .ref a ∧ y = .ref b ∧ H a = some (.dK ks) ∧ H b = some (.dK []) ∧ Q (.bl (!ks.isEmpty)) H
theorem op_ne0 (hu : X.A.units < cLine) : OpR X (compareOp .NotEq) rNe0 := by
  intro pins s σ H x y v u Q I rx ry h
  obtain ⟨a, b, ks, rfl, rfl, ha, hb, q⟩ := h
  cases (show v = Value.ref a from rx)
  cases (show u = Value.ref b from ry)
  obtain ⟨_, ya, va, ra, da⟩ := (show ObjOk X.prog X.w H s.heap a (.dK ks) from I.hok a _ ha)
  obtain ⟨_, yb, vb, rb, db⟩ := (show ObjOk X.prog X.w H s.heap b (.dK []) from I.hok b _ hb)
  cases rb
  refine PySem.W.keq_ne (knd := mixKind X.prog X.w) (r := true) ya yb da db hu (fun e => ?_) ?_
  · cases ra with
    | nil => exact .nil
    | cons _ _ => exact absurd e (by simp)
  · refine fin_bl I q ?_
    cases ra with
    | nil => rfl
    | cons _ _ => rfl
end
end Gd

set_option Elab.async false
set_option linter.all false
set_option maxRecDepth 100000
set_option maxHeartbeats 4000000
/-! Te: sorted(..) of a list of tuples of ints, the first of which is empty. -/
namespace Gd
open PySem PySem.Spec PyProof.Rows L2 SrtO
theorem lexI_lt : ∀ xs ys : List Int, lexI xs ys = HT.lexLt xs ys
  | [], [] => rfl
  | [], _ :: _ => rfl
  | _ :: _, [] => rfl
  | x :: xs, y :: ys => by
    show (if x = y then lexI xs ys else decide (x < y)) = (if x = y then HT.lexLt xs ys else decide (x < y))
    rw [lexI_lt xs ys]
section
variable {prog : Program} {w : World} {A : Around} {s : Shared} {E : Value → Shared → Prop}
theorem lt_pt {v u : Value} {ns ms : List Int} {Q : Bool → Shared → Prop} (hu : A.units < cLine) (hv : IsIT s.heap v ns) (hw : IsIT s.heap u ms) (h : Q (lexI ns ms) s) : wpAny (model prog w) A (keyLt' oneType' v u) Q E s := by
  obtain ⟨a, o, its, n, rfl, ho, hc, hd, rv⟩ := hv
  obtain ⟨a', o', its', n', rfl, ho', hc', hd', rv'⟩ := hw
  obtain ⟨c1, d1, t1, l1⟩ := o
  obtain ⟨c2, d2, t2, l2⟩ := o'
  dsimp only at hc hd hc' hd'
  subst hc hd hc' hd'
  rw [lexI_lt] at h
  have hT : s.TypeIs (.ref a) "tuple" := ⟨_, ho, rfl⟩
  rw [keyLt'_oneType, oneLt'_eq]
  simp only [if_true]
  refine wpAny_bind (wpAny_cRoomFor hu ?_)
  have key : wpAny (model prog w) A (call (.builtin "tuple.__lt__") [.ref a, .ref a']) (fun r s' => r = .bool (HT.lexLt ns ms) ∧ s' = s) E s := by
    refine wpAny_call (codeAny_call_builtin PySem.F.slot_tuple_lt.plain PySem.F.entry_tuple_lt (PySem.F.slot_tuple_lt.check _ _ _ _ _ _ _ _ hT (PySem.F.args_tuple_lt_2 _ _) ?_))
    refine wpAny_mono (HT.tuple_lt_ints a a' its its' n n' d1 d2 l1 l2 ns ms (intsAre_of rv) (intsAre_of rv') prog w _ (wants (fun r s' => r = .bool (HT.lexLt ns ms) ∧ s' = s) E) s ⟨ho, ho', rfl, rfl⟩) (fun fin s' q => ?_) fun _ _ z => z
    cases fin with
    | done f => exact q
    | again c => exact q
  refine wpAny_bind (wpAny_callSpecialIfBound?_slot (name := Str.ofString "__lt__") hT PySem.F.slot_tuple_lt (wpAny_mono key (fun r s' z => ?_) fun _ _ e => e))
  obtain ⟨rfl, rfl⟩ := z
  exact wpAny_truthy_bool h
theorem pt_cmp {vs : List Value} {k : Value → List Int} (hu : A.units < cLine) (hp : ∀ v ∈ vs, IsIT s.heap v (k v)) : Cmp prog w A s oneType' (fun p => p.1 ∈ vs) (lt2 fun v u => lexI (k v) (k u)) := by
  intro p q hm hm'
  exact lt_pt (Q := fun r s' => s' = s ∧ r = lexI (k p.1) (k q.1)) (E := fun _ _ => False) hu (hp _ hm) (hp _ hm') ⟨rfl, rfl⟩
/-- what the first items of such tuples are, where there is one -/
def frst : List Int → Option Int
  | [] => none
  | x :: _ => some x
theorem firsts_run {M : Model} {k : Value → List Int} {Q : List (Option Value) → Shared → Prop} : ∀ vs : List Value, (∀ v ∈ vs, IsIT s.heap v (k v)) → (∀ fs : List (Option Value), fs.map Option.isSome = vs.map (fun v => (frst (k v)).isSome) → Q fs s) → wpAny M A (vs.mapM firstOfTuple') Q E s
  | [], _, h => by
    rw [List.mapM_nil]
    exact wpAny_pure (h [] rfl)
  | v :: vs, hp, h => by
    obtain ⟨a, o, its, n, e, ho, hc, hd, rv⟩ := hp v List.mem_cons_self
    subst e
    rw [List.mapM_cons, PySem.W.kas_first_eq]
    refine wpAny_bind (wpAny_bind (PySem.W.Looks.here (show PySem.W.Looks M s.heap (typeOf (.ref a)) o.cls from (PySem.W.Looks.ld ho).andThen .now) ?_))
    rw [hc, if_neg (by first | decide | simp)]
    refine wpAny_bind (listItems_at ho hd (wpAny_pure ?_))
    refine wpAny_bind (firsts_run vs (fun u hu => hp u (List.mem_cons_of_mem _ hu)) fun fs e => wpAny_pure (h _ ?_))
    rw [List.map_cons, List.map_cons, e]
    congr 1
    obtain ⟨l⟩ := its
    cases hk : k (.ref a) with
    | nil =>
      rw [hk] at rv
      cases rv
      rfl
    | cons x xs =>
      rw [hk] at rv
      cases rv
      rfl
theorem pt_kind {M : Model} {v0 : Value} {vs : List Value} {k : Value → List Int} {Q : SortKind → Shared → Prop} (hp : ∀ v ∈ v0 :: vs, IsIT s.heap v (k v)) (h0 : k v0 = []) (h : Q oneType' s) : wpAny M A (keyKind' (v0 :: vs).toArray) Q E s := by
  rw [kat_kind_eq, List.mapM_toArray, map_eq_pure_bind]
  refine wpAny_bind (wpAny_bind (firsts_run _ hp fun fs e => wpAny_pure ?_))
  rw [List.map_cons, h0] at e
  cases fs with
  | nil => cases e
  | cons f fs =>
    rw [List.map_cons] at e
    have ef : f.isSome = false := (List.cons.inj e).1
    have ef : f = none := by
      cases f with
      | none => rfl
      | some _ => cases ef
    subst ef
    rw [if_neg (by simp), if_neg (by simp)]
    rw [oneTypeOnly'_eq, List.mapM_toArray, map_eq_pure_bind]
    refine wpAny_bind (wpAny_bind (wpAny_bind (PySem.W.kas_mapM (r := .type "tuple") _ (fun v hv Q' hq => ?_) (wpAny_pure ?_))))
    · obtain ⟨a, o, its, n, e, ho, hc, hd, rv⟩ := hp v hv
      subst e
      rw [← hc] at hq
      exact PySem.W.Looks.here (show PySem.W.Looks M s.heap (typeOf (.ref a)) o.cls from (PySem.W.Looks.ld ho).andThen .now) hq
    · have hall2 : ((List.map (fun _ => Value.type "tuple") (v0 :: vs)).toArray.all fun x => x == Value.type "tuple") = true := by
        simp only [List.all_toArray, List.all_map, List.all_eq_true]
        intro _ _
        rfl
      have h0 : (List.map (fun _ => Value.type "tuple") (v0 :: vs)).toArray[0]? = some (Value.type "tuple") := by simp
      rw [h0]
      simp only [hall2, if_true]
      exact wpAny_pure (wpAny_pure h)
theorem pts_sortable {a : Addr} {v0 : Value} {vs : List Value} {k : Value → List Int} (hu : A.units < cLine) (hp : ∀ v ∈ v0 :: vs, IsIT s.heap v (k v)) (h0 : k v0 = []) (ha : ∀ o, s.heap.get? a = some o → o.cls ≠ .type "tuple") : SortableO prog w A s a (v0 :: vs) fun v u => lexI (k v) (k u) := by
  intro h' keep
  have hp' : ∀ v ∈ v0 :: vs, IsIT h' v (k v) := fun v hm => by
    obtain ⟨b, o, its, n, e, ho, hc, hd, rv⟩ := hp v hm
    exact ⟨b, o, its, n, e, keep b o (fun z => by subst z; exact ha o ho hc) ho, hc, hd, rv⟩
  exact ⟨oneType', fun Q E hq => pt_kind (s := { s with heap := h' }) hp' h0 hq, pt_cmp hu hp'⟩
end
/-- sorted(xs), xs a list of tuples of ints, the first one empty (k says which) -/
def rSortE (K : PySem.W.Frag) : List V → Hp → VK → Prop := fun vs H Q => ∃ (a : Addr) (x0 : V) (xs : List V) (k : V → List Int), vs = [V.ref a] ∧ SqL K H a (x0 :: xs) ∧ k x0 = [] ∧ (∀ x ∈ x0 :: xs, ∃ t, x = V.ref t ∧ SqT K H t ((k x).map V.int)) ∧
  ∀ ys p, Srtd (ltI k) ys → Stb (ltI k) ys (x0 :: xs) → H p = none → Q (.ref p) (upd H p (.lst ys))
theorem call_sortE {X : Cx} (hu : X.A.units + 64 < cLine) : CallR X (.builtin "sorted") (rSortE X.K) := by
  intro pins s σ H vs us Q I r h
  obtain ⟨a, x0, xs, k, rfl, hs, h0, hx, q⟩ := h
  obtain ⟨u, rfl, ru⟩ := vals1 r
  obtain rfl : u = Value.ref a := ru
  obtain ⟨its, rv, hl, hz⟩ := I.list hs
  obtain ⟨e1, e2⟩ := refs_back rv fun x m => by
    obtain ⟨t, e, _⟩ := hx x m
    exact ⟨t, e⟩
  have e3 : ∀ v ∈ its, IsIT s.heap v (k (backV v)) := fun v hv => by
    obtain ⟨t, rfl⟩ := e2 v hv
    have hm : V.ref t ∈ x0 :: xs := by rw [e1]; exact List.mem_map.mpr ⟨_, hv, rfl⟩
    obtain ⟨t', e, ht⟩ := hx _ hm
    cases e
    obtain ⟨its2, r2, ⟨o, ho, hc, n, hd⟩, _⟩ := I.tuple ht
    exact ⟨t, o, its2.toArray, n, rfl, ho, hc, hd, r2⟩
  obtain ⟨v0, vs, rfl⟩ : ∃ v0 vs, its = v0 :: vs := by
    cases its with
    | nil => cases rv
    | cons v0 vs => exact ⟨v0, vs, rfl⟩
  have hk0 : k (backV v0) = [] := by
    have z : x0 = backV v0 := by
      rw [List.map_cons] at e1
      exact (List.cons.inj e1).1
    rw [← z]
    exact h0
  refine sorted_ord (lexI_swo fun v => k (backV v)) hl.isList (by rw [← rv.length]; exact hz) (fun h2 h₁ a' ha kk => ?_) fun out h1 h2 => ?_
  · refine pts_sortable (s := { s with heap := h₁ }) (by show X.A.units + 1 + 1 < cLine; omega) (fun v hm => ?_) hk0 fun o e => ?_
    · obtain ⟨b, o, its2, n, e, ho, hc, hd, rv2⟩ := e3 v hm
      exact ⟨b, o, its2, n, e, (kk b o ho).2, hc, hd, rv2⟩
    · have e' : some o = some (seqObj "list" (v0 :: vs).toArray 0) := e.symm.trans ha
      cases e'
      intro c
      exact absurd (Value.type.inj c) (by decide)
  · obtain ⟨c, hcc⟩ := sortedAll_at s.heap (v0 :: vs) out.toArray
    have h3 : ∀ u ∈ out, ∃ a, u = Value.ref a := fun u hu => e2 u (h2.perm.mem_iff.mp hu)
    have hb : Stb (ltI k) (out.map backV) (x0 :: xs) := by
      rw [e1]
      exact Stb.map (lexI_swo k) backV h2
    refine ⟨.ref (s.heap.objs.size + 1), upd H (s.heap.objs.size + 1) (.lst (out.map backV)), I.laid (t' := s.toks) (fun b o e => sortedAll_old e) (Nat.le_succ _) ⟨?_, out, c, vals_back h3, hcc⟩, rfl, q _ _ (srtd_map h1) hb (I.hok.fresh (Nat.le_succ _))⟩
    rw [hb.len]
    exact hz
end Gd

set_option Elab.async false
set_option linter.all false
set_option maxRecDepth 100000
set_option maxHeartbeats 1000000
/-! Ma: ties and books in the heap. -/
namespace Gd
open PySem PySem.Spec PyProof.Rows L2
/-- what is tracked stays, but for lists -/
def SameN (H G : Hp) : Prop := ∀ b o, H b = some o → (∀ xs, o ≠ .lst xs) → G b = some o
section
variable {K : PySem.W.Frag} {H G F : Hp}
theorem SameN.refl : SameN H H := fun _ _ e _ => e
theorem SameN.of (s : Same H G) : SameN H G := fun b o e _ => s b o e
theorem SameN.trans (a : SameN H G) (b : SameN G F) : SameN H F := fun c o e n => b c o (a c o e n) n
/-- tuples stay -/
def KeepT (H G : Hp) : Prop := ∀ b xs, (H b = some (.tup xs) → G b = some (.tup xs)) ∧ ∀ o, H b = some (.frz o (.tup xs)) → G b = some (.frz o (.tup xs))
theorem KeepT.refl : KeepT H H := fun b xs => ⟨id, fun o => id⟩
theorem KeepT.trans (x : KeepT H G) (y : KeepT G F) : KeepT H F := fun b xs => ⟨fun e => (y b xs).1 ((x b xs).1 e), fun o e => (y b xs).2 o ((x b xs).2 o e)⟩
theorem SameN.keepT (s : SameN H G) : KeepT H G := fun b xs => ⟨fun e => s b _ e (fun _ z => nomatch z), fun o e => s b _ e (fun _ z => nomatch z)⟩
/-- what is no tuple may be exchanged -/
theorem KeepT.put {p : Addr} {u : Option HO} (o : HO) (e : H p = u) (n : ∀ xs, u ≠ some (.tup xs) ∧ ∀ o, u ≠ some (.frz o (.tup xs))) : KeepT H (upd H p o) := fun b xs => by
  by_cases q : b = p
  · subst q
    exact ⟨fun z => absurd (e.symm.trans z) (n xs).1, fun o' z => absurd (e.symm.trans z) ((n xs).2 o')⟩
  · rw [upd_ne q]
    exact ⟨id, fun o' => id⟩
theorem KeepT.new {p : Addr} (o : HO) (n : H p = none) : KeepT H (upd H p o) := .put o n fun xs => ⟨(fun z => nomatch z), fun o z => nomatch z⟩
theorem KeepT.lst {p : Addr} {ys : List V} (o : HO) (n : H p = some (.lst ys)) : KeepT H (upd H p o) := .put o n fun xs => ⟨(fun z => nomatch z), fun o z => nomatch z⟩
theorem KeepT.dic {p : Addr} {kvs : List (Key × V)} (o : HO) (n : H p = some (.dK kvs)) : KeepT H (upd H p o) := .put o n fun xs => ⟨(fun z => nomatch z), fun o z => nomatch z⟩
theorem KeepT.ins {p C dx : Addr} {fs : List (Str × V)} (o : HO) (n : H p = some (.ins C dx fs)) : KeepT H (upd H p o) := .put o n fun xs => ⟨(fun z => nomatch z), fun o z => nomatch z⟩
theorem KeepT.sqT {a : Addr} {xs : List V} (s : KeepT H G) (h : SqT K H a xs) : SqT K G a xs := by
  rcases h with (h | ⟨o, h⟩) | h
  · exact .inl (.inl ((s a xs).1 h))
  · exact .inl (.inr ⟨o, (s a xs).2 o h⟩)
  · exact .inr h
theorem SameN.sqT {a : Addr} {xs : List V} (s : SameN H G) (h : SqT K H a xs) : SqT K G a xs := s.keepT.sqT h
/-- data without lists -/
inductive Td (K : PySem.W.Frag) (H : Hp) : V → PyData → Prop
  | int (i : Int) : Td K H (.int i) (.int i)
  | str (x : Str) : Td K H (.str x) (.str x)
  | tup {a : Addr} {xs : List V} {ds : List PyData} (h : SqT K H a xs) (l : xs.length = ds.length) (r : ∀ (i : Nat) (x : V) (d : PyData), xs[i]? = some x → ds[i]? = some d → Td K H x d) : Td K H (.ref a) (.tuple ds)
theorem Td.mv (s : KeepT H G) {v : V} {d : PyData} (h : Td K H v d) : Td K G v d := by
  induction h with
  | int i => exact .int i
  | str x => exact .str x
  | tup h l _ ih => exact .tup (s.sqT h) l ih
theorem Td.same (s : SameN H G) {v : V} {d : PyData} (h : Td K H v d) : Td K G v d := h.mv s.keepT
theorem dpAll_of : ∀ {xs : List V} {ds : List PyData}, xs.length = ds.length → (∀ (i : Nat) (x : V) (d : PyData), xs[i]? = some x → ds[i]? = some d → Dp K H x d) → DpAll K H xs ds
  | [], [], _, _ => .nil
  | [], _ :: _, l, _ => by cases l
  | _ :: _, [], l, _ => by cases l
  | x :: xs, d :: ds, l, h => .cons (h 0 x d rfl rfl) (dpAll_of (by simpa using l) fun i y e h1 h2 => h (i + 1) y e (by simpa using h1) (by simpa using h2))
theorem Td.dp {v : V} {d : PyData} (h : Td K H v d) : Dp K H v d := by
  induction h with
  | int i => exact .int i
  | str x => exact .str x
  | tup h l _ ih => exact .tup h (dpAll_of l ih)
theorem td_ints {a : Addr} {r : List Int} (h : SqT K H a (r.map V.int)) : Td K H (.ref a) (.tuple (r.map PyData.int)) :=
  .tup h (by rw [List.length_map, List.length_map]) fun i x d h1 h2 => by
    rw [List.getElem?_map] at h1 h2
    cases e : r[i]? with
    | none => rw [e] at h1; cases h1
    | some z =>
      rw [e] at h1 h2
      cases h1
      cases h2
      exact .int z
theorem td_strs {a : Addr} {r : List Str} (h : SqT K H a (r.map V.str)) : Td K H (.ref a) (.tuple (r.map PyData.str)) :=
  .tup h (by rw [List.length_map, List.length_map]) fun i x d h1 h2 => by
    rw [List.getElem?_map] at h1 h2
    cases e : r[i]? with
    | none => rw [e] at h1; cases h1
    | some z =>
      rw [e] at h1 h2
      cases h1
      cases h2
      exact .str z
end
end Gd
namespace K7
open PySem PySem.Spec PyProof.Rows L2 Gd
def rowD (r : List Int) : PyData := .tuple (r.map PyData.int)
def rowsD (rs : List (List Int)) : PyData := .tuple (rs.map rowD)
def tieD (q : Tie) : PyData := .tuple [.int q.1, rowsD q.2]
def asTup (q : Tie) : Int × PySem.W.Tup (PySem.W.Tup Int) := ((q.1 : Int), ⟨q.2.map PySem.W.Tup.mk⟩)
theorem tieD_eq (q : Tie) : tieD q = PySem.W.Datum.toD (asTup q) := by
  show PyData.tuple [.int q.1, .tuple (q.2.map rowD)] = .tuple [.int q.1, .tuple ((q.2.map PySem.W.Tup.mk).map fun t => .tuple (t.items.map PyData.int))]
  rw [List.map_map]
  rfl
theorem asTup_inj {p q : Tie} (h : asTup p = asTup q) : p = q := by
  obtain ⟨a, x⟩ := p
  obtain ⟨b, y⟩ := q
  have h1 : (a : Int) = b := congrArg Prod.fst h
  have h2 : x.map PySem.W.Tup.mk = y.map PySem.W.Tup.mk := congrArg (fun z => z.2.items) h
  have h3 : x = y := by
    have z := congrArg (List.map PySem.W.Tup.items) h2
    rw [List.map_map, List.map_map] at z
    have e : (PySem.W.Tup.items ∘ PySem.W.Tup.mk : List Int → List Int) = id := rfl
    rw [e, List.map_id, List.map_id] at z
    exact z
  have h4 : a = b := by omega
  rw [h3, h4]
theorem eqv_tie (p q : Tie) : PyData.eqv (tieD p) (tieD q) = decide (p = q) := by
  rw [tieD_eq, tieD_eq, PySem.W.Datum.eqv]
  exact decide_eq_decide.mpr ⟨asTup_inj, fun h => by rw [h]⟩
theorem plain_tie (q : Tie) : (tieD q).plain = true := by
  rw [tieD_eq]
  exact PySem.W.Datum.plain _
theorem depth_tie (q : Tie) : (tieD q).depth ≤ 64 := by
  rw [tieD_eq]
  exact Nat.le_trans (PySem.W.Datum.depth_le _) (by decide)
section
variable {K : PySem.W.Frag} {H G : Hp}
theorem _root_.Gd.Its.td {vs : List V} {rs : List (List Int)} (h : Its K H vs rs) : ∀ (i : Nat) (x : V) (d : PyData), vs[i]? = some x → (rs.map rowD)[i]? = some d → Td K H x d := fun i x d h1 h2 => by
  obtain ⟨r, hr, t, e, ht⟩ := h.get h1
  rw [List.getElem?_map, hr] at h2
  cases h2
  subst e
  exact td_ints (.inl (.inl ht))
theorem TieAt.td {v : V} {q : Tie} (h : TieAt K H v q) : Td K H v (tieD q) := by
  obtain ⟨a, b, ts, rfl, h1, h2, h3⟩ := h
  refine .tup h1 rfl fun i x d e1 e2 => ?_
  match i with
  | 0 => cases e1; cases e2; exact .int _
  | 1 =>
    cases e1; cases e2
    exact .tup h2 (by rw [List.length_map]; exact h3.len) h3.td
  | i + 2 => simp at e1
theorem _root_.Gd.IT.mv {v : V} {r : List Int} (s : KeepT H G) (h : IT K H v r) : IT K G v r := by
  obtain ⟨t, e, z⟩ := h
  exact ⟨t, e, (s _ _).1 z⟩
theorem _root_.Gd.Its.mv (s : KeepT H G) : ∀ {vs : List V} {rs : List (List Int)}, Its K H vs rs → Its K G vs rs
  | _, _, .nil => .nil
  | _, _, .cons h t => .cons (Gd.IT.mv s h) (Gd.Its.mv s t)
theorem TieAt.mv {v : V} {q : Tie} (s : KeepT H G) (h : TieAt K H v q) : TieAt K G v q := by
  obtain ⟨a, b, ts, e, h1, h2, h3⟩ := h
  exact ⟨a, b, ts, e, s.sqT h1, s.sqT h2, Gd.Its.mv s h3⟩
theorem TiesAt.mv {d : Addr} {kvs : List (Key × V)} {ps : List (Str × Tie)} (s : KeepT H G) (e : G d = some (.dK kvs)) (h : TiesAt K H d kvs ps) : TiesAt K G d kvs ps :=
  ⟨e, h.len, h.few, fun i k v e => by
    obtain ⟨q, h1, h2, h3⟩ := h.one i k v e
    exact ⟨q, h1, h2, h3.mv s⟩, h.names, h.rows⟩
theorem TiesAt.sameN {d : Addr} {kvs : List (Key × V)} {ps : List (Str × Tie)} (s : SameN H G) (h : TiesAt K H d kvs ps) : TiesAt K G d kvs ps := h.mv s.keepT (s _ _ h.at_ fun _ z => nomatch z)
end
end K7

set_option Elab.async false
set_option linter.all false
set_option maxRecDepth 100000
set_option maxHeartbeats 1000000
/-! Mb: ties compared; a book in the heap. -/
namespace K7
open PySem PySem.Spec PyProof.Rows L2 Gd
def lookT (ps : List (Str × Tie)) (x : Str) : Option Tie := (ps.find? fun p => decide (p.1 = x)).map (·.2)
theorem lookT_cons (p : Str × Tie) (ps : List (Str × Tie)) (x : Str) : lookT (p :: ps) x = if p.1 = x then some p.2 else lookT ps x := by
  unfold lookT
  by_cases h : p.1 = x
  · simp [List.find?_cons, h]
  · simp [List.find?_cons, h]
theorem lookT_mem : ∀ {ps : List (Str × Tie)} {p : Str × Tie}, (ps.map Prod.fst).Nodup → p ∈ ps → lookT ps p.1 = some p.2
  | [], _, _, h => by cases h
  | q :: ps, p, nd, h => by
    rw [List.map_cons, List.nodup_cons] at nd
    rw [lookT_cons]
    rcases List.mem_cons.mp h with e | h
    · rw [e, if_pos rfl]
    · rw [if_neg fun e => nd.1 (by rw [e]; exact List.mem_map_of_mem h)]
      exact lookT_mem nd.2 h
theorem lookT_some : ∀ {ps : List (Str × Tie)} {x : Str} {q : Tie}, lookT ps x = some q → (x, q) ∈ ps
  | [], _, _, h => by cases h
  | p :: ps, x, q, h => by
    rw [lookT_cons] at h
    by_cases e : p.1 = x
    · rw [if_pos e] at h
      cases h
      rw [← e]
      exact List.mem_cons_self
    · rw [if_neg e] at h
      exact List.mem_cons_of_mem _ (lookT_some h)
theorem lookT_none : ∀ {ps : List (Str × Tie)} {x : Str}, lookT ps x = none ↔ x ∉ ps.map Prod.fst
  | [], x => by simp [lookT]
  | p :: ps, x => by
    rw [lookT_cons, List.map_cons, List.mem_cons]
    by_cases e : p.1 = x
    · rw [if_pos e]
      simp [e]
    · rw [if_neg e, lookT_none]
      constructor
      · intro h z
        rcases z with z | z
        · exact e z.symm
        · exact h z
      · exact fun h z => h (.inr z)
theorem lookT_perm {ps qs : List (Str × Tie)} (p : ps.Perm qs) (nd : (ps.map Prod.fst).Nodup) (x : Str) : lookT ps x = lookT qs x := by
  have nq : (qs.map Prod.fst).Nodup := (p.map Prod.fst).nodup_iff.mp nd
  cases h : lookT qs x with
  | none =>
    rw [lookT_none] at h ⊢
    exact fun z => h ((p.map Prod.fst).mem_iff.mp z)
  | some q => exact lookT_mem nd (p.mem_iff.mpr (lookT_some h))
/-- whether two plain books have equal ties -/
def eqTies (ps qs : List (Str × Tie)) : Bool := ps.length == qs.length && ps.all fun p => decide (lookT qs p.1 = some p.2)
theorem eqTies_perm {ps ps' qs qs' : List (Str × Tie)} (p : ps.Perm ps') (q : qs.Perm qs') (nd : (qs.map Prod.fst).Nodup) : eqTies ps qs = eqTies ps' qs' := by
  unfold eqTies
  rw [p.length_eq, q.length_eq]
  congr 1
  have e : (fun p : Str × Tie => decide (lookT qs p.1 = some p.2)) = fun p => decide (lookT qs' p.1 = some p.2) := by
    funext z
    rw [lookT_perm q nd]
  rw [e]
  exact p.all_eq
theorem eqTies_self {ps : List (Str × Tie)} (nd : (ps.map Prod.fst).Nodup) : eqTies ps ps = true := by
  unfold eqTies
  rw [beq_self_eq_true, Bool.true_and]
  exact List.all_eq_true.mpr fun p h => decide_eq_true (lookT_mem nd h)
section
variable {K : PySem.W.Frag} {H G : Hp}
theorem ties_val : ∀ {kvs : List (Key × V)} {ps : List (Str × Tie)}, kvs.length = ps.length → (∀ (i : Nat) (k : Key) (v : V), kvs[i]? = some (k, v) → ∃ q, ps[i]? = some q ∧ k = .inr q.1 ∧ TieAt K H v q.2) → ∀ x : Str,
    (∀ q, lookT ps x = some q → ∃ v, valV kvs (.inr x) = some v ∧ TieAt K H v q) ∧ (lookT ps x = none → valV kvs (.inr x) = none)
  | [], [], _, _, x => ⟨fun q h => (nomatch (show (none : Option Tie) = some q from h)), fun _ => rfl⟩
  | [], _ :: _, l, _, _ => by cases l
  | _ :: _, [], l, _, _ => by cases l
  | (k, v) :: kvs, p :: ps, l, h, x => by
    obtain ⟨q0, e0, ek, t0⟩ := h 0 k v rfl
    cases e0
    have ih := ties_val (kvs := kvs) (ps := ps) (by simpa using l) (fun i k v e => h (i + 1) k v (by simpa using e)) x
    subst ek
    rw [lookT_cons]
    unfold valV
    by_cases e : p.1 = x
    · have z : (((Sum.inr p.1, v) :: kvs : List (Key × V)).find? fun kv => decide (kv.1 = Sum.inr x)) = some (Sum.inr p.1, v) := by simp [List.find?_cons, e]
      rw [if_pos e, z]
      exact ⟨fun q z => by cases z; exact ⟨v, rfl, t0⟩, fun z => by cases z⟩
    · have z : (((Sum.inr p.1, v) :: kvs : List (Key × V)).find? fun kv => decide (kv.1 = Sum.inr x)) = kvs.find? fun kv => decide (kv.1 = Sum.inr x) := by
        have ne : ¬ (Sum.inr p.1 : Key) = Sum.inr x := fun z => e (Sum.inr.inj z)
        simp [List.find?_cons, ne]
      rw [if_neg e, z]
      exact ih
theorem TiesAt.val {d : Addr} {kvs : List (Key × V)} {ps : List (Str × Tie)} (h : TiesAt K H d kvs ps) {x : Str} {q : Tie} (e : lookT ps x = some q) : ∃ v, valV kvs (.inr x) = some v ∧ TieAt K H v q := (ties_val h.len h.one x).1 q e
theorem TiesAt.no {d : Addr} {kvs : List (Key × V)} {ps : List (Str × Tie)} (h : TiesAt K H d kvs ps) {x : Str} (e : lookT ps x = none) : valV kvs (.inr x) = none := (ties_val h.len h.one x).2 e
theorem TiesAt.isS {d : Addr} {kvs : List (Key × V)} {ps : List (Str × Tie)} (h : TiesAt K H d kvs ps) (x : Str) : (valV kvs (.inr x)).isSome = (lookT ps x).isSome := by
  cases e : lookT ps x with
  | none =>
    rw [h.no e]
    rfl
  | some q =>
    obtain ⟨v, e2, _⟩ := h.val e
    rw [e2]
    rfl
theorem TiesAt.keys {d : Addr} {kvs : List (Key × V)} {ps : List (Str × Tie)} (h : TiesAt K H d kvs ps) : kvs.map (·.1) = (ps.map Prod.fst).map Sum.inr := by
  apply List.ext_getElem?
  intro i
  rw [List.getElem?_map, List.getElem?_map, List.getElem?_map]
  cases e : kvs[i]? with
  | none =>
    have l := h.len
    have z : ps[i]? = none := List.getElem?_eq_none (by rw [← l]; exact List.getElem?_eq_none_iff.mp e)
    rw [z]
    rfl
  | some p =>
    obtain ⟨k, v⟩ := p
    obtain ⟨q, e1, e2, _⟩ := h.one i k v e
    rw [e1, e2]
    rfl
/-- what the values under one key say, of two dicts of ties -/
def eTie (ps qs : List (Str × Tie)) : Key → Bool
  | .inr x => decide (lookT ps x = lookT qs x)
  | _ => true
theorem TiesAt.eq3 {n : Nat} {d d2 : Addr} {kvs ls : List (Key × V)} {ps qs : List (Str × Tie)} (h : TiesAt K H d kvs ps) (g : TiesAt K H d2 ls qs) (nd : (ps.map Prod.fst).Nodup) : ∀ k v y, (k, v) ∈ kvs → valV ls k = some y → Eq3 K H n v y (eTie ps qs k) := by
  intro k v y hm hy
  obtain ⟨i, hi⟩ := List.mem_iff_getElem?.mp hm
  obtain ⟨p, e1, rfl, t⟩ := h.one i k v hi
  have e2 := lookT_mem nd (List.mem_of_getElem? e1)
  cases e3 : lookT qs p.1 with
  | none =>
    rw [g.no e3] at hy
    cases hy
  | some q =>
    obtain ⟨y', e4, t'⟩ := g.val e3
    rw [hy] at e4
    cases e4
    have z : eTie ps qs (.inr p.1) = PyData.eqv (tieD p.2) (tieD q) := by
      rw [eqv_tie]
      show decide (lookT ps p.1 = lookT qs p.1) = _
      rw [e2, e3]
      exact decide_eq_decide.mpr ⟨fun z => Option.some.inj z, fun z => by rw [z]⟩
    rw [z]
    exact .data t.td.dp t'.td.dp (plain_tie _) (plain_tie _) (depth_tie _)
theorem TiesAt.eqDs {d d2 : Addr} {kvs ls : List (Key × V)} {ps qs : List (Str × Tie)} (h : TiesAt K H d kvs ps) (g : TiesAt K H d2 ls qs) (nd : (ps.map Prod.fst).Nodup) : Gd.eqDs kvs ls (eTie ps qs) = eqTies ps qs := by
  unfold Gd.eqDs eqTies
  rw [h.len, g.len]
  congr 1
  have z : ∀ (i : Nat) (p : Key × V), kvs[i]? = some p → ∃ q, ps[i]? = some q ∧ ((valV ls p.1).isSome && eTie ps qs p.1) = decide (lookT qs q.1 = some q.2) := fun i p e => by
    obtain ⟨k, v⟩ := p
    obtain ⟨q, e1, rfl, _⟩ := h.one i k v e
    refine ⟨q, e1, ?_⟩
    show ((valV ls (.inr q.1)).isSome && decide (lookT ps q.1 = lookT qs q.1)) = _
    rw [g.isS, lookT_mem nd (List.mem_of_getElem? e1)]
    cases e3 : lookT qs q.1 with
    | none => rfl
    | some r =>
      show (true && decide (some q.2 = some r)) = decide (some r = some q.2)
      rw [Bool.true_and]
      exact decide_eq_decide.mpr eq_comm
  apply Bool.eq_iff_iff.mpr
  rw [List.all_eq_true, List.all_eq_true]
  constructor
  · intro a p hp
    obtain ⟨i, hi⟩ := List.mem_iff_getElem?.mp hp
    have hk : i < kvs.length := by rw [h.len]; exact (List.getElem?_eq_some_iff.mp hi).1
    obtain ⟨q, e1, e2⟩ := z i _ (List.getElem?_eq_getElem hk)
    rw [hi] at e1
    cases e1
    rw [← e2]
    exact a _ (List.getElem_mem hk)
  · intro a p hp
    obtain ⟨i, hi⟩ := List.mem_iff_getElem?.mp hp
    obtain ⟨q, e1, e2⟩ := z i _ hi
    rw [e2]
    exact a _ (List.mem_of_getElem? e1)
end
/-! ### the sets -/
def dueS : List (List Int) := [[0], [0, 1], [0, 1, 2], [0, 1, 2, 3], [0, 1, 3], [0, 2], [0, 2, 3], [0, 3], [1], [1, 2], [1, 2, 3], [1, 3], [2], [2, 3], [3]]
def setsL (n : Nat) : List (List Int) := dueS.filter fun r => r.all fun x => decide (x < n)
def valuesIn : List (List Int) := [[], [0], [1], [0, 1], [2], [0, 2], [1, 2], [0, 1, 2], [3], [0, 3], [1, 3], [0, 1, 3], [2, 3], [0, 2, 3], [1, 2, 3], [0, 1, 2, 3]]
theorem sets_perm {n : Nat} (h1 : 1 ≤ n) (h4 : n ≤ 4) : ((valuesIn.take (2 ^ n)).drop 1).Perm (setsL n) := by
  have : n = 1 ∨ n = 2 ∨ n = 3 ∨ n = 4 := by omega
  rcases this with rfl | rfl | rfl | rfl <;> decide +kernel
theorem lexI_irrefl : ∀ x : List Int, lexI x x = false
  | [] => rfl
  | x :: xs => by rw [lexI_eq]; exact lexI_irrefl xs
theorem sets_srt {n : Nat} (h1 : 1 ≤ n) (h4 : n ≤ 4) : (setsL n).Pairwise fun x y => lexI y x = false := by
  have : n = 1 ∨ n = 2 ∨ n = 3 ∨ n = 4 := by omega
  rcases this with rfl | rfl | rfl | rfl <;> decide +kernel
theorem sorted_uniq {xs ys : List (List Int)} (p : xs.Perm ys) (h1 : xs.Pairwise fun x y => lexI y x = false) (h2 : ys.Pairwise fun x y => lexI y x = false) : xs = ys :=
  List.Perm.eq_of_pairwise (le := fun x y => lexI y x = false) (fun a b _ _ h h' => lexI_tot a b h' h) h1 h2 p
end K7

set_option Elab.async false
set_option linter.all false
set_option maxRecDepth 100000
set_option maxHeartbeats 1000000
/-! Mc: class Book: what its methods say. -/
namespace K7
open PySem PySem.Spec PyProof.Rows L2 Gd
def bf (n : Int) (tN dT tS : Addr) : List (Str × V) := [("_size", .int n), ("_names", .ref tN), ("_ties", .ref dT), ("_sets", .ref tS)]
theorem bf_size (n : Int) (tN dT tS : Addr) : (bf n tN dT tS).lookup ("_size" : Str) = some (.int n) := by kernel_rfl
theorem bf_names (n : Int) (tN dT tS : Addr) : (bf n tN dT tS).lookup ("_names" : Str) = some (.ref tN) := by kernel_rfl
theorem bf_ties (n : Int) (tN dT tS : Addr) : (bf n tN dT tS).lookup ("_ties" : Str) = some (.ref dT) := by kernel_rfl
theorem bf_sets (n : Int) (tN dT tS : Addr) : (bf n tN dT tS).lookup ("_sets" : Str) = some (.ref tS) := by kernel_rfl
theorem bf_places (n : Int) (tN dT tS : Addr) : (bf n tN dT tS).lookup ("places" : Str) = none := by kernel_rfl
theorem _root_.L2.Room.u200 {k : Nat} {A : Around} (r : Room k A) : A.units + 200 < cLine := by have := r.un; omega
/-- what the class is -/
structure Bk (K : PySem.W.Frag) (mg : Str → Option Value) (C : Addr) : Prop where
  cl : Cls K C
  nS : NoAttr K C "_size"
  nN : NoAttr K C "_names"
  nT : NoAttr K C "_ties"
  nE : NoAttr K C "_sets"
  pl : PlainC K C
  kb : ∀ T, (T = "NoneType" ∨ T = "bool" ∨ T = "int" ∨ T = "str" ∨ T = "list" ∨ T = "dict" ∨ T = "tuple") → PySem.W.kitOne K (.type T) (.ref C) = some false ∧ PySem.W.notFirst K C (.type T) = true
  mgC : mg "Book" = some (.ref C)
structure BookAt (K : PySem.W.Frag) (H : Hp) (C a : Addr) (n : Nat) (ps : List (Str × Tie)) (dT : Addr) : Prop where
  ex : ∃ (dx tN tS : Addr) (kvs : List (Key × V)), H a = some (.ins C dx (bf n tN dT tS)) ∧ SqT K H tN ((ps.map Prod.fst).map V.str) ∧ TiesAt K H dT kvs ps ∧ Td K H (.ref tS) (rowsD (setsL n))
  nd : (ps.map Prod.fst).Nodup
theorem BookAt.sameN {K : PySem.W.Frag} {H G : Hp} {C a dT : Addr} {n : Nat} {ps : List (Str × Tie)} (s : SameN H G) (h : BookAt K H C a n ps dT) : BookAt K G C a n ps dT := by
  obtain ⟨dx, tN, tS, kvs, h1, h2, h3, h4⟩ := h.ex
  exact ⟨⟨dx, tN, tS, kvs, s _ _ h1 (fun _ z => nomatch z), s.sqT h2, h3.sameN s, h4.same s⟩, h.nd⟩
theorem BookAt.lock {K : PySem.W.Frag} {H : Hp} {C a dT d : Addr} {n : Nat} {ps : List (Str × Tie)} {kvs : List (Key × V)} (o : HO) (h : BookAt K H C a n ps dT) (e : H d = some (.dK kvs)) (ne : dT ≠ d) : BookAt K (upd H d o) C a n ps dT := by
  obtain ⟨dx, tN, tS, kvs', h1, h2, h3, h4⟩ := h.ex
  have k : KeepT H (upd H d o) := KeepT.dic o e
  have na : a ≠ d := ne_of h1 e (by intro z; cases z)
  exact ⟨⟨dx, tN, tS, kvs', by rw [upd_ne na]; exact h1, k.sqT h2, h3.mv k (by rw [upd_ne ne]; exact h3.at_), h4.mv k⟩, h.nd⟩
/-- a method of the class that keeps its promise -/
structure HasM (P : Program) (w : World) (K : PySem.W.Frag) (mg : Str → Option Value) (base : Heap) (C : Addr) (k : Nat) (m : Str) (ps : List Str) (sp : Sp) : Prop where
  ex : ∃ (f : Addr) (fd : FuncData), FnOk P w K mg base CX0 k f fd ps sp ∧ Dun K C f m ∧ Meth K C m f ∧ Binds K fd ps []
section
variable {P : Program} {w : World} {K : PySem.W.Frag} {mg : Str → Option Value} {base : Heap} {C : Addr}
def contB (ps : List (Str × Tie)) : Jv → Bool
  | .str x => (lookT ps x).isSome
  | _ => false
def spCont (K : PySem.W.Frag) (C : Addr) : Sp := fun vs H Q _ => ∃ (a dT : Addr) (n : Nat) (ps : List (Str × Tie)) (v : V) (j : Jv), vs = [.ref a, v] ∧ BookAt K H C a n ps dT ∧ Js K H v j ∧ Q (.bl (contB ps j)) H
theorem ok_contains {f : Addr} {fd : FuncData} (F : Fun K "__contains__" "Book.__contains__" s_Book_contains f fd) (B : Blt mg) (T : Bk K mg C) : FnOk P w K mg base CX0 1 f fd ["self", "value"] (spCont K C) := by
  refine F.ok sc_Book_contains (fun vs H Q E h => ?_) (fun cdv A outer s H vs Q E hr h => ?_)
  · obtain ⟨a, dT, n, ps, v, j, rfl, _⟩ := h
    rfl
  obtain ⟨a, dT, n, ps, v, j, rfl, hb, hj, q⟩ := h
  obtain ⟨dx, tN, tS, kvs, ha, hN, hT, hS⟩ := hb.ex
  refine ⟨_, (pss_one (ps_ret (pe_and (pe_callB call_isi (by rfl) B.isinstance_ (by decide +kernel) (pa_cons (pv 1) (pa_cons (pe_bltn (v := .ty "str") rfl B.str_ boot_str rfl) pa_nil))) (pe_one (pe_cmp (pc_din (hu_of hr) (pv 1) (pe_fld (pv 0) rfl)) rfl))))), ?_⟩
  refine ⟨v, rfl, hj.isi (.inr (.inr (.inl rfl))) ⟨_, rfl, ?_⟩⟩
  cases hj with
  | str x few =>
    rw [is_str_str]
    refine iteT ⟨.str x, rfl, .ref a, rfl, a, C, dx, _, _, rfl, ha, T.cl, T.nT, bf_ties _ _ _ _, dT, _, rfl, DGet.k (k := Sum.inr x) hT.at_, ?_⟩
    have e : (valV kvs (Sum.inr x : Key)).isSome = contB ps (.str x) := hT.isS x
    rw [← e] at q
    exact q
  | non => rw [is_non_str]; exact iteF q
  | bl b => rw [is_bl_str]; exact iteF q
  | int i => rw [is_int_str]; exact iteF q
  | lst h => rw [is_lst_str]; exact iteF q
  | dic h => rw [is_dic_str]; exact iteF q
  | obj h c => rw [is_obj_str]; exact iteF q
  | tup h few r => rw [is_tup_str]; exact iteF q
def spGetB (K : PySem.W.Frag) (C : Addr) : Sp := fun vs H Q _ => ∃ (a dT : Addr) (n : Nat) (ps : List (Str × Tie)) (x : Str) (q : Tie), vs = [.ref a, .str x] ∧ BookAt K H C a n ps dT ∧ x.length ≤ 1000 ∧ lookT ps x = some q ∧ ∀ v, Td K H v (rowsD q.2) → Q v H
theorem ok_getitem {f : Addr} {fd : FuncData} (F : Fun K "__getitem__" "Book.__getitem__" s_Book_getitem f fd) (B : Blt mg) (T : Bk K mg C) (M : HasM P w K mg base C 1 "__contains__" ["self", "value"] (spCont K C)) : FnOk P w K mg base CX0 2 f fd ["self", "name"] (spGetB K C) := by
  obtain ⟨fc, fdc, Gc, Dc, _, bc⟩ := M.ex
  refine F.ok sc_Book_getitem (fun vs H Q E h => ?_) (fun cdv A outer s H vs Q E hr h => ?_)
  · obtain ⟨a, dT, n, ps, x, q, rfl, _⟩ := h
    rfl
  obtain ⟨a, dT, n, ps, x, q, rfl, hb, hx, hl, qq⟩ := h
  obtain ⟨dx, tN, tS, kvs, ha, hN, hT, hS⟩ := hb.ex
  refine ⟨_, (pss_cons (ps_if (pt_cmpR (op_notInOwn Gc (hr.mono (by decide)) bc pass0 Dc) (pv 1) (pv 0) rfl) (pss_one ps_never) pss_nil)
    (pss_one (ps_ret (pe_ix ix_tup (pe_dget (hu_of hr) (pe_fld (pv 0) rfl) (pv 1) (fun _ _ => rfl)) pe_int (fun _ _ => rfl))))), ?_⟩
  refine ⟨.str x, rfl, .ref a, rfl, a, dx, _, rfl, ha, a, dT, n, ps, _, _, rfl, hb, .str x hx, _, rfl, ?_⟩
  have e : contB ps (.str x) = true := by
    show (lookT ps x).isSome = true
    rw [hl]
    rfl
  rw [e]
  obtain ⟨v, hv, t⟩ := hT.val hl
  refine ⟨_, rfl, iteF ⟨.ref a, rfl, a, C, dx, _, _, rfl, ha, T.cl, T.nT, bf_ties _ _ _ _, .str x, rfl, dT, v, rfl, ?_, ?_⟩⟩
  · have z := DGet.k (k := (Sum.inr x : Key)) hT.at_
    rw [hv] at z
    exact z
  · obtain ⟨t1, t2, ts, rfl, h1, h2, h3⟩ := t
    exact ⟨t1, _, _, .ref t2, rfl, rfl, h1, atI_nat (j := 1) rfl, qq _ (.tup h2 (by rw [List.length_map]; exact h3.len) h3.td)⟩
def spPlaces (K : PySem.W.Frag) (C : Addr) : Sp := fun vs H Q _ => ∃ (a dT : Addr) (n : Nat) (ps : List (Str × Tie)) (x : Str) (q : Tie), vs = [.ref a, .str x] ∧ BookAt K H C a n ps dT ∧ x.length ≤ 1000 ∧ lookT ps x = some q ∧ Q (.int q.1) H
theorem ok_places {f : Addr} {fd : FuncData} (F : Fun K "places" "Book.places" s_Book_places f fd) (B : Blt mg) (T : Bk K mg C) (M : HasM P w K mg base C 1 "__contains__" ["self", "value"] (spCont K C)) : FnOk P w K mg base CX0 2 f fd ["self", "name"] (spPlaces K C) := by
  obtain ⟨fc, fdc, Gc, Dc, _, bc⟩ := M.ex
  refine F.ok sc_Book_places (fun vs H Q E h => ?_) (fun cdv A outer s H vs Q E hr h => ?_)
  · obtain ⟨a, dT, n, ps, x, q, rfl, _⟩ := h
    rfl
  obtain ⟨a, dT, n, ps, x, q, rfl, hb, hx, hl, qq⟩ := h
  obtain ⟨dx, tN, tS, kvs, ha, hN, hT, hS⟩ := hb.ex
  refine ⟨_, (pss_cons (ps_if (pt_cmpR (op_notInOwn Gc (hr.mono (by decide)) bc pass0 Dc) (pv 1) (pv 0) rfl) (pss_one ps_never) pss_nil)
    (pss_one (ps_ret (pe_ix ix_tup (pe_dget (hu_of hr) (pe_fld (pv 0) rfl) (pv 1) (fun _ _ => rfl)) pe_int (fun _ _ => rfl))))), ?_⟩
  refine ⟨.str x, rfl, .ref a, rfl, a, dx, _, rfl, ha, a, dT, n, ps, _, _, rfl, hb, .str x hx, _, rfl, ?_⟩
  have e : contB ps (.str x) = true := by
    show (lookT ps x).isSome = true
    rw [hl]
    rfl
  rw [e]
  obtain ⟨v, hv, t⟩ := hT.val hl
  refine ⟨_, rfl, iteF ⟨.ref a, rfl, a, C, dx, _, _, rfl, ha, T.cl, T.nT, bf_ties _ _ _ _, .str x, rfl, dT, v, rfl, ?_, ?_⟩⟩
  · have z := DGet.k (k := (Sum.inr x : Key)) hT.at_
    rw [hv] at z
    exact z
  · obtain ⟨t1, t2, ts, rfl, h1, h2, h3⟩ := t
    exact ⟨t1, _, _, .int q.1, rfl, rfl, h1, atI_nat (j := 0) rfl, qq⟩
def spLenB (K : PySem.W.Frag) (C : Addr) : Sp := fun vs H Q _ => ∃ (a dT : Addr) (n : Nat) (ps : List (Str × Tie)), vs = [.ref a] ∧ BookAt K H C a n ps dT ∧ Q (.int (ps.length : Int)) H
theorem ok_len {f : Addr} {fd : FuncData} (F : Fun K "__len__" "Book.__len__" s_Book_len f fd) (B : Blt mg) (T : Bk K mg C) : FnOk P w K mg base CX0 1 f fd ["self"] (spLenB K C) := by
  refine F.ok sc_Book_len (fun vs H Q E h => ?_) (fun cdv A outer s H vs Q E hr h => ?_)
  · obtain ⟨a, dT, n, ps, rfl, _⟩ := h
    rfl
  obtain ⟨a, dT, n, ps, rfl, hb, qq⟩ := h
  obtain ⟨dx, tN, tS, kvs, ha, hN, hT, hS⟩ := hb.ex
  refine ⟨_, (pss_one (ps_ret (pe_callB call_lenD (by rfl) B.len_ (by decide +kernel) (pa_cons (pe_fld (pv 0) rfl) pa_nil)))), ?_⟩
  refine ⟨.ref a, rfl, a, C, dx, _, _, rfl, ha, T.cl, T.nT, bf_ties _ _ _ _, dT, kvs, rfl, hT.at_, ?_⟩
  rw [hT.len]
  exact qq
/-- other is a book, or a value of another kind -/
def spEqB (K : PySem.W.Frag) (C : Addr) : Sp := fun vs H Q _ => ∃ (a dT : Addr) (n : Nat) (ps : List (Str × Tie)) (v : V), vs = [.ref a, v] ∧ BookAt K H C a n ps dT ∧
  ((∃ j, Js K H v j ∧ (∀ D, j ≠ .obj D) ∧ Q (.bl false) H) ∨ ∃ (b dT2 : Addr) (m : Nat) (qs : List (Str × Tie)), v = .ref b ∧ BookAt K H C b m qs dT2 ∧ Q (.bl (decide (n = m) && eqTies ps qs)) H)
theorem kit_book {T : Bk K mg C} {H : Hp} {v : V} {j : Jv} (h : Js K H v j) (no : ∀ D, j ≠ .obj D) : PySem.W.kitOne K j.ty (.ref C) = some false ∧ PySem.W.notFirst K C j.ty = true := by
  cases h with
  | non => exact T.kb _ (by simp)
  | bl b => exact T.kb _ (by simp)
  | int i => exact T.kb _ (by simp)
  | str x few => exact T.kb _ (by simp)
  | lst h => exact T.kb _ (by simp)
  | dic h => exact T.kb _ (by simp)
  | obj h c => exact absurd rfl (no _)
  | tup h few r => exact T.kb _ (by simp)
theorem kit_self : PySem.W.kitOne K (.ref C) (.ref C) = some true := by
  unfold PySem.W.kitOne
  rw [if_pos (beq_self_eq_true _)]
theorem Bk.tyX {H : Hp} {a dx : Addr} {fs : List (Str × V)} (T : Bk K mg C) (ha : H a = some (.ins C dx fs)) : TyX K H (.ref a) (.ref C) := (Js.obj ha T.pl).tyX
theorem ok_eq {f : Addr} {fd : FuncData} (F : Fun K "__eq__" "Book.__eq__" s_Book_eq f fd) (B : Blt mg) (T : Bk K mg C) : FnOk P w K mg base CX0 1 f fd ["self", "other"] (spEqB K C) := by
  refine F.ok sc_Book_eq (fun vs H Q E h => ?_) (fun cdv A outer s H vs Q E hr h => ?_)
  · obtain ⟨a, dT, n, ps, v, rfl, _⟩ := h
    rfl
  obtain ⟨a, dT, n, ps, v, rfl, hb, hh⟩ := h
  obtain ⟨dx, tN, tS, kvs, ha, hN, hT, hS⟩ := hb.ex
  refine ⟨_, (pss_one (ps_ret (pe_and (pe_callB call_isi (by rfl) B.isinstance_ (by decide +kernel) (pa_cons (pv 1) (pa_cons (pe_glob (v := .ref C) rfl T.mgC rfl) pa_nil)))
    (pe_and (pe_cmpR op_eq (pe_fld (pv 0) rfl) (pe_fld (pv 1) rfl) (nomark _)) (pe_one (pe_cmpR (op_eq3 (Room.u200 hr)) (pe_fld (pv 0) rfl) (pe_fld (pv 1) rfl) (nomark _))))))), ?_⟩
  rcases hh with ⟨j, hj, no, q⟩ | ⟨b, dT2, m, qs, rfl, hb2, q⟩
  · refine ⟨v, rfl, v, .ref C, j.ty, _, false, rfl, .own C, hj.tyX, (kit_book (T := T) hj no).1, _, rfl, iteF q⟩
  · obtain ⟨dx2, tN2, tS2, kvs2, ha2, hN2, hT2, hS2⟩ := hb2.ex
    refine ⟨.ref b, rfl, .ref b, .ref C, .ref C, _, true, rfl, .own C, T.tyX ha2, kit_self, _, rfl, iteT ?_⟩
    refine ⟨.ref a, rfl, a, C, dx, _, _, rfl, ha, T.cl, T.nS, bf_size _ _ _ _, .ref b, rfl, b, C, dx2, _, _, rfl, ha2, T.cl, T.nS, bf_size _ _ _ _, rfl, _, rfl, ?_⟩
    rw [dec_v]
    have en : decide ((n : Int) = (m : Int)) = decide (n = m) := decide_eq_decide.mpr (by omega)
    rw [en]
    cases e : decide (n = m) with
    | false =>
      rw [e, Bool.false_and] at q
      exact iteF q
    | true =>
      rw [e, Bool.true_and] at q
      refine iteT ⟨.ref a, rfl, a, C, dx, _, _, rfl, ha, T.cl, T.nT, bf_ties _ _ _ _, .ref b, rfl, b, C, dx2, _, _, rfl, ha2, T.cl, T.nT, bf_ties _ _ _ _, ?_⟩
      refine ⟨0, dT, dT2, kvs, kvs2, eTie ps qs, by decide, rfl, rfl, hT.at_, hT2.at_, hT.eq3 hT2 hb.nd, ?_⟩
      rw [hT.eqDs hT2 hb.nd]
      exact q
def spStrB (K : PySem.W.Frag) (C : Addr) : Sp := fun vs H Q _ => ∃ (a dT : Addr) (n : Nat) (ps : List (Str × Tie)), vs = [.ref a] ∧ BookAt K H C a n ps dT ∧ n ≤ 4 ∧ ps.length ≤ 8 ∧ ∀ z : Str, z.length ≤ 1000 → Q (.str z) H
theorem log_few {n : Nat} (h : n ≤ 1000) : (n : Int).natAbs.log2 < 1920 := by
  show n.log2 < 1920
  by_cases e : n = 0
  · subst e
    decide
  · exact Nat.lt_of_lt_of_le ((Nat.log2_lt e).mpr (Nat.lt_of_le_of_lt h (by decide : 1000 < 2 ^ 10))) (by decide)
theorem txt_few {n : Nat} (h : n ≤ 8) : (toString (n : Int) : Str).length ≤ 1 := by
  have : n = 0 ∨ n = 1 ∨ n = 2 ∨ n = 3 ∨ n = 4 ∨ n = 5 ∨ n = 6 ∨ n = 7 ∨ n = 8 := by omega
  rcases this with rfl | rfl | rfl | rfl | rfl | rfl | rfl | rfl | rfl <;> decide +kernel
theorem ok_str {f : Addr} {fd : FuncData} (F : Fun K "__str__" "Book.__str__" s_Book_str f fd) (B : Blt mg) (T : Bk K mg C) : FnOk P w K mg base CX0 1 f fd ["self"] (spStrB K C) := by
  refine F.ok sc_Book_str (fun vs H Q E h => ?_) (fun cdv A outer s H vs Q E hr h => ?_)
  · obtain ⟨a, dT, n, ps, rfl, _⟩ := h
    rfl
  obtain ⟨a, dT, n, ps, rfl, hb, hn, hp, qq⟩ := h
  obtain ⟨dx, tN, tS, kvs, ha, hN, hT, hS⟩ := hb.ex
  refine ⟨_, (pss_one (ps_ret (pe_joined (.cons pe_str (.cons (pe_fmt (pe_fld (pv 0) rfl)) (.cons pe_str (.cons (pe_fmt (pe_callB call_lenD (by rfl) B.len_ (by decide +kernel) (pa_cons (pe_fld (pv 0) rfl) pa_nil))) (.cons pe_str .nil)))))))), ?_⟩
  have big : ∀ n : Nat, n ≤ 1000 → n ≤ sizeLine := fun n h => Nat.le_of_lt (small1000 h)
  have l1 := txt_few (n := n) (by omega)
  have l2 := txt_few (n := ps.length) hp
  have hl : kvs.length = ps.length := hT.len
  have e0 : Str.empty.length = 0 := rfl
  have e1 : (Str.ofString "book of ").length = 8 := rfl
  have e2 : (Str.ofString " values, ").length = 9 := rfl
  have e3 : (Str.ofString " ties").length = 5 := rfl
  refine ⟨_, rfl, big _ (by decide +kernel), .ref a, rfl, a, C, dx, _, _, rfl, ha, T.cl, T.nS, bf_size _ _ _ _, .inr ⟨_, rfl, log_few (by omega), _, rfl, big _ ?_, _, rfl, big _ ?_, .ref a, rfl, a, C, dx, _, _, rfl, ha, T.cl, T.nT, bf_ties _ _ _ _, dT, kvs, rfl, hT.at_, .inr ⟨_, rfl, log_few (by omega), _, rfl, big _ ?_, _, rfl, big _ ?_, ?_⟩⟩⟩
  rotate_left 4
  · refine qq _ ?_
    simp only [add_len, hl]
    omega
  all_goals
    simp only [add_len, hl]
    omega
/-- iter(self) -/
def IsNames (K : PySem.W.Frag) (C : Addr) (a : Addr) (H : Hp) (t : Addr) (xs : List V) : Prop := ∃ dx fs, H a = some (.ins C dx fs) ∧ fs.lookup ("_names" : Str) = some (.ref t)
theorem ok_iter {f : Addr} {fd : FuncData} (F : Fun K "__iter__" "Book.__iter__" s_Book_iter f fd) (B : Blt mg) (T : Bk K mg C) : FnS P w K mg base CX0 1 f fd ["self"] (spIterT K C (IsNames K C)) := by
  refine fnS_ok F sc_Book_iter (fun n vs H Q E h => ?_) (fun cdv A outer s H vs Q E hr h => ?_)
  · obtain ⟨a, t, xs, rfl, _⟩ := h
    rfl
  obtain ⟨a, t, xs, rfl, ⟨dx, fs, ha, hl⟩, hS, q⟩ := h
  refine ⟨_, (pss_one (ps_ret (pe_callB call_iterT (by rfl) B.iter_ (by decide +kernel) (pa_cons (pe_fld (pv 0) rfl) pa_nil)))), ?_⟩
  exact ⟨.ref a, rfl, a, C, dx, fs, _, rfl, ha, T.cl, T.nN, hl, t, xs, rfl, hS, q⟩
theorem ok_size {f : Addr} {fd : FuncData} (F : Fun K "size" "Book.size" s_Book_size f fd) (T : Bk K mg C) : FnOk P w K mg base CX0 1 f fd ["self"] (getSp C "_size") := by
  refine F.ok sc_Book_size (fun vs H Q E h => ?_) (fun cdv A outer s H vs Q E hr h => ?_)
  · obtain ⟨a, dx, fs, v, rfl, _⟩ := h
    rfl
  obtain ⟨a, dx, fs, v, rfl, ha, l, q⟩ := h
  exact ⟨_, (pss_one (ps_ret (pe_fld (pv 0) rfl))), .ref a, rfl, a, C, dx, fs, v, rfl, ha, T.cl, T.nS, l, q⟩
theorem ok_names {f : Addr} {fd : FuncData} (F : Fun K "names" "Book.names" s_Book_names f fd) (T : Bk K mg C) : FnOk P w K mg base CX0 1 f fd ["self"] (getSp C "_names") := by
  refine F.ok sc_Book_names (fun vs H Q E h => ?_) (fun cdv A outer s H vs Q E hr h => ?_)
  · obtain ⟨a, dx, fs, v, rfl, _⟩ := h
    rfl
  obtain ⟨a, dx, fs, v, rfl, ha, l, q⟩ := h
  exact ⟨_, (pss_one (ps_ret (pe_fld (pv 0) rfl))), .ref a, rfl, a, C, dx, fs, v, rfl, ha, T.cl, T.nN, l, q⟩
end
end K7

set_option Elab.async false
set_option linter.all false
set_option maxRecDepth 100000
set_option maxHeartbeats 1000000
/-! Md: Book.__init__. -/
namespace K7
open PySem PySem.Spec PyProof.Rows L2 Gd
/-- all but what stands at a stays -/
def SameX (a : Addr) (H G : Hp) : Prop := ∀ b o, b ≠ a → H b = some o → G b = some o
section
variable {a : Addr} {H G F : Hp}
theorem SameX.of (s : Same H G) : SameX a H G := fun b o _ e => s b o e
theorem SameX.trans (x : SameX a H G) (y : SameX a G F) : SameX a H F := fun b o n e => y b o n (x b o n e)
theorem SameX.at (o : HO) : SameX a H (upd H a o) := fun b u n e => by rw [upd_ne n]; exact e
theorem SameX.new {p : Addr} (o : HO) (n : H p = none) : SameX a H (upd H p o) := fun b u _ e => by rw [upd_ne (ne_of_none e n)]; exact e
theorem SameX.keepT {C dx : Addr} {fs : List (Str × V)} (s : SameX a H G) (ha : H a = some (.ins C dx fs)) : KeepT H G := fun b xs => ⟨fun e => s b _ (fun z => by rw [z, ha] at e; cases e) e, fun o e => s b _ (fun z => by rw [z, ha] at e; cases e) e⟩
theorem SameX.ties {K : PySem.W.Frag} {d : Addr} {kvs : List (Key × V)} {ps : List (Str × Tie)} {C dx : Addr} {fs : List (Str × V)} (s : SameX a H G) (ha : H a = some (.ins C dx fs)) (h : TiesAt K H d kvs ps) : TiesAt K G d kvs ps := h.mv (s.keepT ha) (s _ _ (ne_of h.at_ ha (by intro z; cases z)) h.at_)
end
/-! ### VALUES_IN, as it is written -/
def tupK (K : PySem.W.Frag) (t : Addr) : Option (List Value) := match K.lookup t with
  | some ⟨.type "tuple", _, .seq its _, _⟩ => some its.toList
  | _ => none
def intOf : Value → Option Int
  | .int i _ => some i
  | _ => none
def intsK (K : PySem.W.Frag) (t : Addr) : Option (List Int) := (tupK K t).bind fun us => us.mapM intOf
def kK (K : PySem.W.Frag) : V → List Int
  | .ref t => (intsK K t).getD []
  | _ => []
def vinB (K : PySem.W.Frag) (tv : Addr) : Bool := match tupK K tv with
  | some us => us.length == 16 && (us.zip valuesIn).all fun p => match p.1 with
    | .ref t => decide (intsK K t = some p.2)
    | _ => false
  | none => false
theorem tupK_sq {K : PySem.W.Frag} {t : Addr} {us : List Value} (h : tupK K t = some us) {H : Hp} {xs : List V} (r : Vals xs us) (l : us.length ≤ 1000) : SqT K H t xs := by
  unfold tupK at h
  split at h
  · rename_i e
    cases h
    refine .inr ⟨_, _, _, e, rfl, rfl, ?_, r⟩
    exact Nat.le_of_lt (small1000 (by simpa using l))
  · cases h
theorem ints_vals : ∀ {us : List Value} {r : List Int}, us.mapM intOf = some r → Vals (r.map V.int) us
  | [], r, h => by
    rw [List.mapM_nil] at h
    cases h
    exact .nil
  | u :: us, r, h => by
    rw [List.mapM_cons] at h
    cases e : intOf u with
    | none => rw [e] at h; cases h
    | some i =>
      rw [e] at h
      cases e2 : us.mapM intOf with
      | none => rw [e2] at h; cases h
      | some rs =>
        rw [e2] at h
        cases h
        have z := ints_vals e2
        cases u with
        | int j t =>
          cases e
          exact .cons ⟨t, rfl⟩ z
        | _ => cases e
theorem intsK_sq {K : PySem.W.Frag} {t : Addr} {r : List Int} (h : intsK K t = some r) (l : r.length ≤ 1000) {H : Hp} : SqT K H t (r.map V.int) := by
  unfold intsK at h
  cases e : tupK K t with
  | none => rw [e] at h; cases h
  | some us =>
    rw [e] at h
    have v := ints_vals h
    refine tupK_sq e v ?_
    have z := v.length
    rw [List.length_map] at z
    omega
theorem refs_vals : ∀ ts : List Addr, Vals (ts.map V.ref) (ts.map Value.ref)
  | [] => .nil
  | t :: ts => .cons rfl (refs_vals ts)
structure VIn (K : PySem.W.Frag) (tv : Addr) : Prop where
  ex : ∃ ts : List Addr, (∀ H, SqT K H tv (ts.map V.ref)) ∧ ts.length = 16 ∧ ∀ (i : Nat) (t : Addr), ts[i]? = some t → ∃ r, valuesIn[i]? = some r ∧ intsK K t = some r
theorem refs_list : ∀ {us : List Value} {rs : List (List Int)} {K : PySem.W.Frag}, us.length = rs.length → ((us.zip rs).all fun p => match p.1 with
    | .ref t => decide (intsK K t = some p.2)
    | _ => false) = true → ∃ ts : List Addr, us = ts.map Value.ref ∧ ∀ (i : Nat) (t : Addr), ts[i]? = some t → ∃ r, rs[i]? = some r ∧ intsK K t = some r
  | [], [], _, _, _ => ⟨[], rfl, fun i t e => by simp at e⟩
  | [], _ :: _, _, l, _ => by cases l
  | _ :: _, [], _, l, _ => by cases l
  | u :: us, r :: rs, K, l, h => by
    rw [List.zip_cons_cons, List.all_cons, Bool.and_eq_true] at h
    obtain ⟨ts, e, f⟩ := refs_list (us := us) (rs := rs) (K := K) (by simpa using l) h.2
    cases u with
    | ref t =>
      refine ⟨t :: ts, by rw [e]; rfl, fun i t' e' => ?_⟩
      cases i with
      | zero =>
        cases e'
        exact ⟨r, rfl, of_decide_eq_true h.1⟩
      | succ i => exact f i t' (by simpa using e')
    | _ => exact absurd h.1 (by simp)
theorem vin_of {K : PySem.W.Frag} {tv : Addr} (h : vinB K tv = true) : VIn K tv := by
  unfold vinB at h
  cases e : tupK K tv with
  | none => rw [e] at h; cases h
  | some us =>
    rw [e] at h
    have h : (us.length == 16 && (us.zip valuesIn).all fun p => match p.1 with
      | .ref t => decide (intsK K t = some p.2)
      | _ => false) = true := h
    rw [Bool.and_eq_true] at h
    have l : us.length = 16 := by simpa using h.1
    obtain ⟨ts, e2, f⟩ := refs_list (rs := valuesIn) l h.2
    subst e2
    refine ⟨ts, fun H => tupK_sq e ?_ (by omega), by simpa using l, f⟩
    exact refs_vals ts
theorem cut_pow {xs : List V} {n : Nat} (h : 2 ^ n ≤ xs.length) : cutV xs (some 1) (some (1 * 2 ^ (n : Int).toNat)) = (xs.take (2 ^ n)).drop 1 := by
  have e : (1 * 2 ^ (n : Int).toNat : Int) = ((2 ^ n : Nat) : Int) := by
    rw [Int.one_mul, Int.toNat_natCast, Int.natCast_pow]
    rfl
  rw [e]
  unfold cutV
  rw [show HT.sIx xs.length 0 (some 1) = min 1 xs.length from HT.sIx_nat xs.length 0 1, HT.sIx_nat xs.length xs.length (2 ^ n)]
  have p : 1 ≤ 2 ^ n := Nat.one_le_two_pow
  rw [Nat.min_eq_left (show 1 ≤ xs.length by omega), Nat.min_eq_left h, List.drop_take]
section
variable {P : Program} {w : World} {K : PySem.W.Frag} {mg : Str → Option Value} {base : Heap} {C : Addr}
def sortT (ps : List (Str × Tie)) (ys : List Str) : List (Str × Tie) := ys.map fun x => (x, (lookT ps x).getD (0, []))
theorem sortT_fst (ps : List (Str × Tie)) (ys : List Str) : (sortT ps ys).map Prod.fst = ys := by
  unfold sortT
  rw [List.map_map]
  exact List.map_id ys
theorem sortT_perm {ps : List (Str × Tie)} {ys : List Str} (nd : (ps.map Prod.fst).Nodup) (p : ys.Perm (ps.map Prod.fst)) : (sortT ps ys).Perm ps := by
  have z := p.map fun x => ((x, (lookT ps x).getD (0, [])) : Str × Tie)
  rw [List.map_map] at z
  have e : ps.map ((fun x => ((x, (lookT ps x).getD (0, [])) : Str × Tie)) ∘ Prod.fst) = ps := by
    refine (List.map_congr_left (g := id) fun q hq => ?_).trans (List.map_id _)
    show (q.1, (lookT ps q.1).getD (0, [])) = q
    rw [lookT_mem nd hq]
    rfl
  rw [e] at z
  exact z
theorem bf_make (n : Int) (tN dT tS : Addr) : putF ("_sets" : Str) (.ref tS) (putF ("_ties" : Str) (.ref dT) (putF ("_names" : Str) (.ref tN) (putF ("_size" : Str) (.int n) []))) = bf n tN dT tS := by kernel_rfl
theorem bf_n3 (n : Int) (tN dT : Addr) : (putF ("_ties" : Str) (.ref dT) (putF ("_names" : Str) (.ref tN) (putF ("_size" : Str) (.int n) []))).length = 3 := by kernel_rfl
theorem bf_n2 (n : Int) (tN : Addr) : (putF ("_names" : Str) (.ref tN) (putF ("_size" : Str) (.int n) [])).length = 2 := by kernel_rfl
theorem bf_l2 (n : Int) (tN : Addr) : (putF ("_names" : Str) (.ref tN) (putF ("_size" : Str) (.int n) [])).lookup ("_names" : Str) = some (.ref tN) := by kernel_rfl
theorem bf_n1 (n : Int) : (putF ("_size" : Str) (.int n) ([] : List (Str × V))).length = 1 := by kernel_rfl
def spInit (K : PySem.W.Frag) (C : Addr) : Sp := fun vs H Q _ => ∃ (a dx d : Addr) (n : Nat) (ps : List (Str × Tie)) (kvs : List (Key × V)), vs = [.ref a, .int n, .ref d] ∧ H a = some (.ins C dx []) ∧ 1 ≤ n ∧ n ≤ 4 ∧ TiesAt K H d kvs ps ∧ ps.length ≤ 8 ∧ (ps.map Prod.fst).Nodup ∧ (∀ q ∈ ps, Nm q.1 ∧ GoodTie n q.2) ∧
  ∀ G qs dT, SameX a H G → H dT = none → qs.Perm ps → sortedS (qs.map Prod.fst) = true → BookAt K G C a n qs dT → Q .non G
theorem ok_init {f tv : Addr} {fd : FuncData} (F : Fun K "__init__" "Book.__init__" s_Book_init f fd) (B : Blt mg) (Cc : Cst mg) (T : Bk K mg C) (g_VALUES_IN : mg "VALUES_IN" = some (.ref tv)) (Vi : VIn K tv) (C1 : Has P w K mg base 1 "is_integer" ["value"] (spInt K)) (C2 : Has P w K mg base 7 "is_ties" ["size", "value"] (spTies K)) : FnOk P w K mg base CX0 8 f fd ["self", "size", "ties"] (spInit K C) := by
  obtain ⟨t1, g_MAX_VALUES⟩ := Cc.values
  obtain ⟨f1, fd1, G_is_integer, g_is_integer, k_is_integer, b_is_integer⟩ := C1.ex
  obtain ⟨f2, fd2, G_is_ties, g_is_ties, k_is_ties, b_is_ties⟩ := C2.ex
  refine F.ok sc_Book_init (fun vs H Q E h => ?_) (fun cdv A outer s H vs Q E hr h => ?_)
  · obtain ⟨a, dx, d, n, ps, kvs, rfl, _⟩ := h
    rfl
  obtain ⟨a, dx, d, n, ps, kvs, rfl, ha, n1, n4, hT, few, nd, good, q⟩ := h
  refine ⟨_, (pss_cons (ps_if (PW.pt (pw_or (pt_not (pt_val (pe_call G_is_integer (hr.mono (by decide)) (by rfl) g_is_integer k_is_integer b_is_integer .nil pass0 (pa_cons (pv 1) pa_nil)))) (pw_or1 (pt_not (pt_chain op_le op_le pe_int (pv 1) (pe_glob (v := .int 4) rfl g_MAX_VALUES ⟨_, rfl⟩)))))) (pss_one ps_never) pss_nil)
  (pss_cons (ps_if (pt_not (pt_val (pe_call G_is_ties (hr.mono (by decide)) (by rfl) g_is_ties k_is_ties b_is_ties .nil pass0 (pa_cons (pv 1) (pa_cons (pv 2) pa_nil))))) (pss_one ps_never) pss_nil)
  (pss_cons (ps_fld (pv 0) (pv 1) rfl)
  (pss_cons (ps_fld (pv 0) (pe_callTy call_tuple_of (by rfl) B.tuple_ (by decide +kernel) (pa_cons (pe_callB (call_sortedD rfl) (by rfl) B.sorted_ (by decide +kernel) (pa_cons (pv 2) pa_nil)) pa_nil)) rfl)
  (pss_cons (ps_fld (pv 0) (pe_dc (own := [("name", 3)]) (g := gName 3) (tt := tYes) rfl sc_Book_init.nd (pi_tup (pe_fld (pv 0) rfl)) (blkOk_by (own := [("name", 3)]) (N := nm_Book_init) (sc := defScope s_Book_init) (by decide +kernel)) (fun _ _ _ _ _ => (pg_name (i := 3) sc_Book_init.nd rfl (.inl rfl))) (fun _ _ _ _ _ => pts_nil) (fun _ _ _ _ _ => (pv 3)) (fun _ _ _ _ _ => (pe_dget (hu_of hr) (pv 2) (pv 3) (fun _ _ => rfl)))) rfl)
  (pss_one (ps_fld (pv 0) (pe_callTy call_tuple_of (by rfl) B.tuple_ (by decide +kernel) (pa_cons (pe_callB call_sortI2 (by rfl) B.sorted_ (by decide +kernel) (pa_cons (pe_slice sl_tupU (pe_glob (v := .ref tv) rfl g_VALUES_IN rfl) (po_some pe_int) (po_some (pe_op op_shl pe_int (pv 1)))) pa_nil)) pa_nil)) rfl))))))), ?_⟩
  have hs : shortJ (.int (n : Int)) = true := by
    show (decide (-TL < (n : Int)) && decide ((n : Int) < TL)) = true
    rw [decide_eq_true (by unfold TL; omega), decide_eq_true (by unfold TL; omega)]
    rfl
  refine ⟨.int n, rfl, .int n, .int n, rfl, .int _, _, rfl, ?_⟩
  rw [hs]
  refine iteF ⟨.int n, rfl, 1, n, rfl, rfl, _, rfl, ?_⟩
  rw [decide_eq_true (show (1 : Int) ≤ n by omega)]
  refine iteT ⟨_, _, rfl, rfl, _, rfl, ?_⟩
  rw [decide_eq_true (show (n : Int) ≤ 4 by omega)]
  refine iteF ?_
  refine ⟨.int n, rfl, .ref d, rfl, .ref d, n, rfl, .inr ⟨d, _, rfl, hT.judged, fun G1 s1 => ?_⟩⟩
  rw [ties_good n4 few good]
  refine ⟨_, rfl, iteF ?_⟩
  refine ⟨.int n, rfl, .ref a, rfl, a, C, dx, _, rfl, s1 _ _ ha, T.cl, T.nS, by decide, ?_⟩
  have da : d ≠ a := ne_of hT.at_ ha (by intro z; cases z)
  have x1 : SameX a H (upd G1 a (.ins C dx (putF ("_size" : Str) (.int n) []))) := (SameX.of s1).trans (SameX.at _)
  have e1 : (upd G1 a (.ins C dx (putF ("_size" : Str) (.int n) []))) a = some (.ins C dx (putF ("_size" : Str) (.int n) [])) := upd_same
  generalize upd G1 a (.ins C dx (putF ("_size" : Str) (.int n) [])) = H1 at x1 e1 ⊢
  have hT2 : TiesAt K H1 d kvs ps := x1.ties ha hT
  refine ⟨.ref d, rfl, d, kvs, ps.map Prod.fst, rfl, .inl hT2.at_, hT2.keys, by rw [List.length_map]; omega, fun ys p perm srt np => ⟨p, _, rfl, .inl ⟨SqL.of upd_same, fun l nl => ?_⟩⟩⟩
  have sA : Same H1 (upd (upd H1 p (.lst (ys.map V.str))) l (.tup (ys.map V.str))) := (Same.newG np).trans (Same.newG nl)
  have tl : (upd (upd H1 p (.lst (ys.map V.str))) l (.tup (ys.map V.str))) l = some (.tup (ys.map V.str)) := upd_same
  generalize upd (upd H1 p (.lst (ys.map V.str))) l (.tup (ys.map V.str)) = HA at sA tl ⊢
  refine ⟨.ref a, rfl, a, C, dx, _, rfl, sA _ _ e1, T.cl, T.nN, by rw [bf_n1]; decide, ?_⟩
  have la : l ≠ a := ne_of tl (sA _ _ e1) (by intro z; cases z)
  have x2 : SameX a H (upd HA a (.ins C dx (putF ("_names" : Str) (.ref l) (putF ("_size" : Str) (.int n) [])))) := (x1.trans (SameX.of sA)).trans (SameX.at _)
  have e2 : (upd HA a (.ins C dx (putF ("_names" : Str) (.ref l) (putF ("_size" : Str) (.int n) [])))) a = some (.ins C dx (putF ("_names" : Str) (.ref l) (putF ("_size" : Str) (.int n) []))) := upd_same
  have t2 : (upd HA a (.ins C dx (putF ("_names" : Str) (.ref l) (putF ("_size" : Str) (.int n) [])))) l = some (.tup (ys.map V.str)) := by rw [upd_ne la]; exact tl
  generalize upd HA a (.ins C dx (putF ("_names" : Str) (.ref l) (putF ("_size" : Str) (.int n) []))) = H2 at x2 e2 t2 ⊢
  have hT3 : TiesAt K H2 d kvs ps := x2.ties ha hT
  have yd : ys.Nodup := perm.nodup_iff.mpr nd
  have yl : ys.length ≤ 8 := by rw [perm.length_eq, List.length_map]; exact few
  refine ⟨.ref a, rfl, a, C, dx, _, _, rfl, e2, T.cl, T.nN, bf_l2 _ _, l, rfl, ⟨_, .inl (.inl t2)⟩, fun D nD => ?_⟩
  have dH : H D = none := by
    cases z : H D with
    | none => rfl
    | some u =>
      by_cases e : D = a
      · rw [e, e2] at nD
        cases nD
      · rw [x2 D u e z] at nD
        cases nD
  refine dc_tup (xs := ys.map V.str) (fun i G => Same H2 G ∧ G D = some (.dK ((ys.take i).map fun x => ((.inr x : Key), (valV kvs (.inr x)).getD .non)))) ⟨Same.newG nD, upd_same⟩ (fun i G _ z => .inl (.inl (z.1 _ _ t2))) (fun i y G hy z => ?_) (fun G z => ?_)
  · obtain ⟨sG, eD⟩ := z
    rw [List.getElem?_map] at hy
    obtain ⟨x, hx, rfl⟩ := Option.map_eq_some_iff.mp hy
    have hm : x ∈ ps.map Prod.fst := perm.mem_iff.mp (List.mem_of_getElem? hx)
    have hq : ∃ q, lookT ps x = some q := by
      cases e : lookT ps x with
      | none => exact absurd hm (lookT_none.mp e)
      | some q => exact ⟨q, rfl⟩
    obtain ⟨q', hq⟩ := hq
    obtain ⟨v, hv, tv'⟩ := hT3.val hq
    have fresh : valV ((ys.take i).map fun x => ((.inr x : Key), (valV kvs (.inr x)).getD .non)) (.inr x) = none := by
      have hn : x ∉ ys.take i := fun z => by
        obtain ⟨j, hj⟩ := List.mem_iff_getElem?.mp z
        have hji : j < i := by
          have := (List.getElem?_eq_some_iff.mp hj).1
          rw [List.length_take] at this
          omega
        rw [List.getElem?_take_of_lt hji] at hj
        have hi' := (List.getElem?_eq_some_iff.mp hx)
        have hj' := (List.getElem?_eq_some_iff.mp hj)
        have := (List.getElem_inj yd).mp (hj'.2.trans hi'.2.symm)
        omega
      unfold valV
      rw [List.find?_eq_none.mpr]
      · rfl
      · intro kv hkv
        obtain ⟨z, hz, rfl⟩ := List.mem_map.mp hkv
        simp only [decide_eq_true_eq]
        exact fun e => hn (by cases e; exact hz)
    refine ⟨rfl, tyes ⟨_, rfl, .ref d, rfl, .str x, rfl, d, v, rfl, ?_, _, .inr x, rfl, eD, small1000 (by rw [List.length_map, List.length_take]; omega), sG.upG nD, ?_⟩⟩
    · have z := DGet.k (k := (Sum.inr x : Key)) (sG _ _ hT3.at_)
      rw [hv] at z
      exact z
    · rw [upd_same, putK_new _ fresh, List.take_add_one, hx, List.map_append]
      show some (HO.dK (_ ++ [(Sum.inr x, v)])) = some (HO.dK (_ ++ [(Sum.inr x, (valV kvs (.inr x)).getD .non)]))
      rw [hv]
      rfl
  · obtain ⟨sG, eD⟩ := z
    rw [List.length_map, List.take_length] at eD
    have Da : D ≠ a := ne_of eD (sG _ _ e2) (by intro z; cases z)
    have lD : l ≠ D := ne_of (sG _ _ t2) eD (by intro z; cases z)
    refine ⟨.ref a, rfl, a, C, dx, _, rfl, sG _ _ e2, T.cl, T.nT, by rw [bf_n2]; decide, ?_⟩
    have x3 : SameX a H (upd G a (.ins C dx (putF ("_ties" : Str) (.ref D) (putF ("_names" : Str) (.ref l) (putF ("_size" : Str) (.int n) []))))) := (x2.trans (SameX.of sG)).trans (SameX.at _)
    have e3 : (upd G a (.ins C dx (putF ("_ties" : Str) (.ref D) (putF ("_names" : Str) (.ref l) (putF ("_size" : Str) (.int n) []))))) a = some (.ins C dx (putF ("_ties" : Str) (.ref D) (putF ("_names" : Str) (.ref l) (putF ("_size" : Str) (.int n) [])))) := upd_same
    have t3 : (upd G a (.ins C dx (putF ("_ties" : Str) (.ref D) (putF ("_names" : Str) (.ref l) (putF ("_size" : Str) (.int n) []))))) l = some (.tup (ys.map V.str)) := by rw [upd_ne la]; exact sG _ _ t2
    have d3 : (upd G a (.ins C dx (putF ("_ties" : Str) (.ref D) (putF ("_names" : Str) (.ref l) (putF ("_size" : Str) (.int n) []))))) D = some (.dK (ys.map fun x => ((.inr x : Key), (valV kvs (.inr x)).getD .non))) := by rw [upd_ne Da]; exact eD
    generalize upd G a (.ins C dx (putF ("_ties" : Str) (.ref D) (putF ("_names" : Str) (.ref l) (putF ("_size" : Str) (.int n) [])))) = H3 at x3 e3 t3 d3 ⊢
    have hT4 : TiesAt K H3 d kvs ps := x3.ties ha hT
    obtain ⟨ts, hts, l16, vin⟩ := Vi.ex
    have p16 : 2 ^ n ≤ 16 := by
      have : n = 1 ∨ n = 2 ∨ n = 3 ∨ n = 4 := by omega
      rcases this with rfl | rfl | rfl | rfl <;> decide
    refine ⟨1, rfl, .int n, rfl, 1, n, rfl, rfl, ⟨by omega, by omega, by decide⟩, _, rfl, tv, _, rfl, hts H3, fun b G5 s5 hb => ?_⟩
    rw [cut_pow (by rw [List.length_map, l16]; exact p16)] at hb
    have kmap : (ts.map V.ref).map (kK K) = valuesIn := by
      apply List.ext_getElem?
      intro i
      rw [List.getElem?_map, List.getElem?_map]
      cases e : ts[i]? with
      | none =>
        have z : 16 ≤ i := by rw [← l16]; exact List.getElem?_eq_none_iff.mp e
        exact (List.getElem?_eq_none (by show 16 ≤ i; exact z)).symm
      | some t =>
        obtain ⟨r, h1, h2⟩ := vin i t e
        rw [h1]
        show some ((intsK K t).getD []) = some r
        rw [h2]
        rfl
    have kxs : (((ts.map V.ref).take (2 ^ n)).drop 1).map (kK K) = (valuesIn.take (2 ^ n)).drop 1 := by rw [List.map_drop, List.map_take, kmap]
    have each : ∀ x ∈ ((ts.map V.ref).take (2 ^ n)).drop 1, ∃ t, x = V.ref t ∧ intsK K t = some (kK K x) ∧ kK K x ≠ [] := fun x hx => by
      have h1 : x ∈ ts.map V.ref := List.mem_of_mem_take (List.mem_of_mem_drop hx)
      obtain ⟨t, ht, rfl⟩ := List.mem_map.mp h1
      obtain ⟨i, hi⟩ := List.mem_iff_getElem?.mp ht
      obtain ⟨r, hr, hk⟩ := vin i t hi
      have e : kK K (.ref t) = r := by
        show (intsK K t).getD [] = r
        rw [hk]
        rfl
      refine ⟨t, rfl, by rw [e]; exact hk, ?_⟩
      have h2 : kK K (.ref t) ∈ (valuesIn.take (2 ^ n)).drop 1 := by rw [← kxs]; exact List.mem_map_of_mem hx
      have h3 : kK K (.ref t) ∈ valuesIn.drop 1 := by
        rw [List.drop_take] at h2
        exact List.mem_of_mem_take h2
      exact (by decide : ∀ r ∈ valuesIn.drop 1, r ≠ []) _ h3
    have shortK : ∀ t r, intsK K t = some r → r ∈ valuesIn → r.length ≤ 1000 := fun t r _ hr => (by decide : ∀ r ∈ valuesIn, r.length ≤ 1000) r hr
    have eachT : ∀ (F : Hp), ∀ x ∈ ((ts.map V.ref).take (2 ^ n)).drop 1, ∃ t, x = V.ref t ∧ SqT K F t ((kK K x).map V.int) := fun F x hx => by
      obtain ⟨t, e, h2, h3⟩ := each x hx
      refine ⟨t, e, intsK_sq h2 ?_⟩
      have h4 : kK K x ∈ valuesIn := by
        rw [← kmap]
        exact List.mem_map_of_mem (List.mem_of_mem_take (List.mem_of_mem_drop hx))
      exact shortK t _ h2 h4
    refine ⟨b, _, kK K, rfl, .inr hb, fun x hx => ?_, fun ys2 p2 srt2 stb2 np2 => ⟨p2, _, rfl, .inl ⟨SqL.of upd_same, fun l2 nl2 => ?_⟩⟩⟩
    · obtain ⟨t, e, h⟩ := eachT G5 x hx
      obtain ⟨_, _, _, h3⟩ := each x hx
      exact ⟨t, e, h, h3⟩
    have s5 : Same H3 G5 := s5
    have sB : Same H3 (upd (upd G5 p2 (.lst ys2)) l2 (.tup ys2)) := s5.trans ((Same.newG np2).trans (Same.newG nl2))
    have tl2 : (upd (upd G5 p2 (.lst ys2)) l2 (.tup ys2)) l2 = some (.tup ys2) := upd_same
    generalize upd (upd G5 p2 (.lst ys2)) l2 (.tup ys2) = HB at sB tl2 ⊢
    refine ⟨.ref a, rfl, a, C, dx, _, rfl, sB _ _ e3, T.cl, T.nE, by rw [bf_n3]; decide, ?_⟩
    have l2a : l2 ≠ a := ne_of tl2 (sB _ _ e3) (by intro z; cases z)
    rw [bf_make]
    have x4 : SameX a H (upd HB a (.ins C dx (bf n l D l2))) := (x3.trans (SameX.of sB)).trans (SameX.at _)
    have x5 : SameX a H3 (upd HB a (.ins C dx (bf n l D l2))) := (SameX.of sB).trans (SameX.at _)
    have e4 : (upd HB a (.ins C dx (bf n l D l2))) a = some (.ins C dx (bf n l D l2)) := upd_same
    have t4 : (upd HB a (.ins C dx (bf n l D l2))) l2 = some (.tup ys2) := by rw [upd_ne l2a]; exact tl2
    generalize upd HB a (.ins C dx (bf n l D l2)) = H4 at x4 x5 e4 t4 ⊢
    have kT : KeepT H3 H4 := x5.keepT e3
    refine q H4 (sortT ps ys) D x4 dH (sortT_perm nd perm) (by rw [sortT_fst]; exact srt) ⟨⟨dx, l, l2, ys.map fun x => ((.inr x : Key), (valV kvs (.inr x)).getD .non), e4, ?_, ?_, ?_⟩, by rw [sortT_fst]; exact yd⟩
    · rw [sortT_fst]
      exact kT.sqT (.inl (.inl t3))
    · refine ⟨x5 D _ Da d3, by unfold sortT; rw [List.length_map, List.length_map], by rw [List.length_map]; omega, fun i k v e => ?_, fun z hz => ?_, fun z hz => ?_⟩
      · rw [List.getElem?_map] at e
        obtain ⟨x, hx, e⟩ := Option.map_eq_some_iff.mp e
        cases e
        have hm : x ∈ ps.map Prod.fst := perm.mem_iff.mp (List.mem_of_getElem? hx)
        cases e : lookT ps x with
        | none => exact absurd hm (lookT_none.mp e)
        | some q' =>
          obtain ⟨v, hv, tv'⟩ := hT4.val e
          refine ⟨(x, q'), ?_, rfl, ?_⟩
          · unfold sortT
            rw [List.getElem?_map, hx]
            show some (x, (lookT ps x).getD (0, [])) = some (x, q')
            rw [e]
            rfl
          · rw [hv]
            exact tv'.mv kT
      · have hz' : z ∈ ps := (sortT_perm nd perm).mem_iff.mp hz
        exact hT.names z hz'
      · have hz' : z ∈ ps := (sortT_perm nd perm).mem_iff.mp hz
        exact hT.rows z hz'
    · have e6 : ys2.map (kK K) = setsL n := by
        refine sorted_uniq ?_ ?_ (sets_srt n1 n4)
        · have z := stb2.perm.map (kK K)
          rw [kxs] at z
          exact z.trans (sets_perm n1 n4)
        · rw [List.pairwise_map]
          exact srt2
      refine .tup (.inl (.inl t4)) (by rw [← e6]; simp) fun i x dd h1 h2 => ?_
      rw [← e6, List.map_map, List.getElem?_map, h1] at h2
      cases h2
      obtain ⟨t, rfl, h⟩ := eachT H4 x (stb2.perm.mem_iff.mp (List.mem_of_getElem? h1))
      exact td_ints h
end
end K7

set_option Elab.async false
set_option linter.all false
set_option maxRecDepth 100000
set_option maxHeartbeats 1000000
/-! Sm: how long small data is, as repr shows it. -/
namespace Gd
open PySem PySem.Spec PyProof.Rows L2
theorem tt_le' (ts : List Str) : (tupleText ts).length ≤ piled ts + 3 := by
  unfold tupleText
  rw [strLen_append, strLen_append]
  have e1 : ((("(" : String) : Str)).length = 1 := rfl
  have e3 : (((if ts.length == 1 then ",)" else ")" : String) : Str)).length ≤ 2 := by split <;> decide
  rw [e1]
  cases ts with
  | nil =>
    have e2 : (Str.join ", " []).length = 0 := rfl
    omega
  | cons t r =>
    have := join_length_add (t :: r) (by simp)
    omega
theorem tf_le : ∀ (ts : List Str) (k : Nat) (acc : Str), (textFrom k acc ts).length ≤ acc.length + piled ts
  | [], k, acc => by
    show acc.length ≤ acc.length + piled []
    omega
  | t :: r, k, acc => by
    have ih := tf_le r (k + 1) (acc ++ (if k > 0 then ", " else "" : String) ++ t)
    have e : (acc ++ (if k > 0 then ", " else "" : String) ++ t).length ≤ acc.length + 2 + t.length := by
      rw [strLen_append, strLen_append]
      have z : (((if k > 0 then ", " else "" : String) : Str)).length ≤ 2 := by split <;> decide
      omega
    rw [piled_cons]
    show (textFrom (k + 1) (acc ++ (if k > 0 then ", " else "" : String) ++ t) r).length ≤ _
    omega
theorem lt_le' (ts : List Str) : (listText ts).length ≤ piled ts + 3 := by
  unfold listText
  rw [strLen_append]
  have z := tf_le ts 0 "["
  have e1 : ((("[" : String) : Str)).length = 1 := rfl
  have e2 : ((("]" : String) : Str)).length = 1 := rfl
  omega
/-- data that repr shows in at most c signs, n deep -/
structure Sm (n c : Nat) (d : PyData) : Prop where
  sh : d.showable = true
  nd : d.hasDict = false
  dp : d.depth ≤ n
  ln : d.shown.length ≤ c
theorem Sm.mono {n m c e : Nat} {d : PyData} (h : Sm n c d) (h1 : n ≤ m) (h2 : c ≤ e) : Sm m e d := ⟨h.sh, h.nd, Nat.le_trans h.dp h1, Nat.le_trans h.ln h2⟩
theorem sm_all {n c : Nat} : ∀ {ds : List PyData}, (∀ d ∈ ds, Sm n c d) → PyData.showableAll ds = true ∧ PyData.hasDictAll ds = false ∧ PyData.depthAll ds ≤ n ∧ piled (PyData.shownAll ds) ≤ ds.length * (c + 2)
  | [], _ => ⟨rfl, rfl, Nat.zero_le _, by show piled [] ≤ _; rw [piled_nil]; exact Nat.zero_le _⟩
  | d :: ds, h => by
    obtain ⟨h1, h2, h3, h4⟩ := sm_all fun e he => h e (List.mem_cons_of_mem _ he)
    have s := h d List.mem_cons_self
    refine ⟨?_, ?_, ?_, ?_⟩
    · rw [PyData.showableAll, s.sh, h1]; rfl
    · rw [PyData.hasDictAll, s.nd, h2]; rfl
    · rw [PyData.depthAll]
      exact Nat.max_le.mpr ⟨s.dp, h3⟩
    · rw [PyData.shownAll, piled_cons, List.length_cons, Nat.add_mul]
      have := s.ln
      omega
theorem sm_tup {n c : Nat} {ds : List PyData} (h : ∀ d ∈ ds, Sm n c d) : Sm (n + 1) (ds.length * (c + 2) + 3) (.tuple ds) := by
  obtain ⟨h1, h2, h3, h4⟩ := sm_all h
  refine ⟨by simp only [PyData.showable, h1], by simp only [PyData.hasDict, h2], by simp only [PyData.depth]; omega, ?_⟩
  simp only [PyData.shown]
  exact Nat.le_trans (tt_le' _) (by omega)
theorem sm_lst {n c : Nat} {ds : List PyData} (h : ∀ d ∈ ds, Sm n c d) : Sm (n + 1) (ds.length * (c + 2) + 3) (.list ds) := by
  obtain ⟨h1, h2, h3, h4⟩ := sm_all h
  refine ⟨by simp only [PyData.showable, h1], by simp only [PyData.hasDict, h2], by simp only [PyData.depth]; omega, ?_⟩
  simp only [PyData.shown]
  exact Nat.le_trans (lt_le' _) (by omega)
theorem sm_int {i : Int} (h0 : 0 ≤ i) (h9 : i ≤ 9) : Sm 0 1 (.int i) := by
  have : i = 0 ∨ i = 1 ∨ i = 2 ∨ i = 3 ∨ i = 4 ∨ i = 5 ∨ i = 6 ∨ i = 7 ∨ i = 8 ∨ i = 9 := by omega
  rcases this with rfl | rfl | rfl | rfl | rfl | rfl | rfl | rfl | rfl | rfl <;> exact ⟨by decide +kernel, rfl, by decide +kernel, by decide +kernel⟩
theorem sm_bool (b : Bool) : Sm 0 5 (.bool b) := by cases b <;> exact ⟨rfl, rfl, by decide +kernel, by decide +kernel⟩
theorem sm_str {x : Str} (h : ∀ c ∈ x.cps.toList, c < 16 ^ 8) (l : x.length ≤ 9) : Sm 0 200 (.str x) := by
  refine ⟨rfl, rfl, by simp [PyData.depth], ?_⟩
  show (reprText x).length ≤ 200
  have z := StrLaws.reprText_len x h
  omega
theorem Sm.r1 {n c : Nat} {d : PyData} (h : Sm n c d) (hn : n < 60) : d.depth < 60 := Nat.lt_of_le_of_lt h.dp hn
theorem Sm.r2 {n c : Nat} {d : PyData} (h : Sm n c d) (hc : c ≤ 16777216) : d.shown.length ≤ sizeLine := Nat.le_trans h.ln (by show c ≤ 2 ^ 24; exact hc)
/-- what repr asks -/
theorem Sm.repr {K : PySem.W.Frag} {n c : Nat} {d : PyData} {a : Addr} {H : Hp} {Q : VK} (h : Sm n c d) (hn : n < 60) (hc : c ≤ 16777216) (r : Dp K H (.ref a) d) (q : Q (.str d.shown) H) : rRepr K [.ref a] H Q :=
  ⟨a, d, rfl, r, h.sh, h.nd, Nat.lt_of_le_of_lt h.dp hn, Nat.le_trans h.ln (by show c ≤ 2 ^ 24; exact hc), q⟩
end Gd

set_option Elab.async false
set_option linter.all false
set_option maxRecDepth 100000
set_option maxHeartbeats 1000000
/-! Np: == and != of data without dicts, whatever its texts are. -/
namespace Gd
open PySem PySem.Spec PyProof.Rows L2
def rEqP (neg : Bool) (K : PySem.W.Frag) : R2 := fun x y H Q => ∃ d e, Dp K H x d ∧ Dp K H y e ∧ d.plain = true ∧ e.plain = true ∧ d.depth ≤ 64 ∧ Q (.bl (if neg = true then !PyData.eqv d e else PyData.eqv d e)) H
theorem op_eqP {X : Cx} (hu : X.A.units + 64 < cLine) : OpR X (compareOp .Eq) (rEqP false X.K) := by
  intro pins s σ H x y v u Q I rx ry h
  obtain ⟨d, e, hd, he, sd, se, dp, q⟩ := h
  obtain ⟨as, r1⟩ := Dp.reads I d x v hd rx
  obtain ⟨bs, r2⟩ := Dp.reads I e y u he ry
  exact SeqAt.eq_plain r1 r2 sd se (Nat.lt_of_le_of_lt (Nat.add_le_add_left (Nat.le_trans (Nat.min_le_left _ _) dp) _) hu) ⟨.bl _, H, I, rfl, q⟩
theorem op_neP {X : Cx} (hu : X.A.units + 64 < cLine) : OpR X (compareOp .NotEq) (rEqP true X.K) := by
  intro pins s σ H x y v u Q I rx ry h
  obtain ⟨d, e, hd, he, sd, se, dp, q⟩ := h
  obtain ⟨as, r1⟩ := Dp.reads I d x v hd rx
  obtain ⟨bs, r2⟩ := Dp.reads I e y u he ry
  exact SeqAt.ne_plain r1 r2 sd se (Nat.lt_of_le_of_lt (Nat.add_le_add_left (Nat.le_trans (Nat.min_le_left _ _) dp) _) hu) ⟨.bl _, H, I, rfl, q⟩
theorem dp_strs : ∀ {K : PySem.W.Frag} {H : Hp} (ns : List Str), DpAll K H (ns.map V.str) (ns.map PyData.str)
  | _, _, [] => .nil
  | _, _, x :: ns => .cons (.str x) (dp_strs ns)
theorem plain_strs : ∀ ns : List Str, PyData.plainAll (ns.map PyData.str) = true
  | [] => rfl
  | x :: ns => by rw [List.map_cons, PyData.plainAll, plain_strs ns]; rfl
theorem depth_strs : ∀ ns : List Str, PyData.depthAll (ns.map PyData.str) = 0
  | [] => by simp [PyData.depthAll]
  | x :: ns => by simp [PyData.depthAll, PyData.depth, depth_strs ns]
theorem js_strs {K : PySem.W.Frag} {H : Hp} : ∀ {ns : List Str}, (∀ x ∈ ns, x.length ≤ 1000) → JsAll K H (ns.map V.str) (ns.map Jv.str)
  | [], _ => .nil
  | x :: ns, h => .cons (.str x (h x List.mem_cons_self)) (js_strs fun y hy => h y (List.mem_cons_of_mem _ hy))
end Gd

set_option Elab.async false
set_option linter.all false
set_option maxRecDepth 100000
set_option maxHeartbeats 1000000
/-! Od: < of data: ints, texts, tuples of such, nested. -/
namespace Gd
open PySem PySem.Spec PyProof.Rows L2 PySem.SeqAt
mutual
def ltD : PyData → PyData → Bool
  | .int a, .int b => decide (a < b)
  | .str a, .str b => decide (a.cps.toList < b.cps.toList)
  | .tuple xs, .tuple ys => ltDs xs ys
  | _, _ => false
def ltDs : List PyData → List PyData → Bool
  | x :: xs, y :: ys => if PyData.eqv x y = true then ltDs xs ys else ltD x y
  | [], _ :: _ => true
  | _, _ => false
end
mutual
/-- such as can be compared -/
def okD : PyData → PyData → Bool
  | .int _, .int _ => true
  | .str _, .str _ => true
  | .tuple xs, .tuple ys => okDs xs ys
  | _, _ => false
def okDs : List PyData → List PyData → Bool
  | x :: xs, y :: ys => okD x y && okDs xs ys
  | _, _ => true
end
theorem ra_get {h : Heap} : ∀ {us : List Value} {ds : List PyData} {as : List Addr}, ReadsAll h us ds as → us.length = ds.length ∧ ∀ (j : Nat) (u : Value) (d : PyData), us[j]? = some u → ds[j]? = some d → ∃ bs, Reads h u d bs
  | _, _, _, .nil => ⟨rfl, fun j u d e => by simp at e⟩
  | _, _, _, .cons (v := v) (vs := vs) (d := d) (ds := ds) (as := as) r rs => by
    obtain ⟨l, g⟩ := ra_get rs
    refine ⟨by rw [List.length_cons, List.length_cons, l], fun j u d' e1 e2 => ?_⟩
    cases j with
    | zero => cases e1; cases e2; exact ⟨_, r⟩
    | succ j => exact g j u d' (by simpa using e1) (by simpa using e2)
theorem firstLt_map {e r : Nat → Bool} {fin : Bool} : ∀ l : List Nat, firstLt e r fin (l.map Nat.succ) = firstLt (fun j => e (j + 1)) (fun j => r (j + 1)) fin l
  | [] => rfl
  | j :: l => by
    rw [List.map_cons]
    show (if e (j + 1) = true then firstLt e r fin (l.map Nat.succ) else r (j + 1)) = if e (j + 1) = true then firstLt (fun j => e (j + 1)) (fun j => r (j + 1)) fin l else r (j + 1)
    rw [firstLt_map l]
def eAt (ds es : List PyData) (j : Nat) : Bool := PyData.eqv (ds.getD j .none) (es.getD j .none)
def rAt (ds es : List PyData) (j : Nat) : Bool := ltD (ds.getD j .none) (es.getD j .none)
theorem first_lt : ∀ ds es : List PyData, firstLt (eAt ds es) (rAt ds es) (decide (ds.length < es.length)) (List.range (min ds.length es.length)) = ltDs ds es
  | [], [] => rfl
  | [], _ :: _ => by
    rw [show min ([] : List PyData).length (_ :: _ : List PyData).length = 0 by simp]
    show decide (0 < _ + 1) = ltDs [] (_ :: _)
    rw [ltDs]
    exact decide_eq_true (Nat.succ_pos _)
  | _ :: _, [] => by
    rw [show min (_ :: _ : List PyData).length ([] : List PyData).length = 0 by simp]
    show decide (_ + 1 < 0) = ltDs (_ :: _) []
    rw [ltDs]
    · exact decide_eq_false (Nat.not_lt_zero _)
    · simp
    · simp
  | d :: ds, e :: es => by
    rw [List.length_cons, List.length_cons, Nat.succ_min_succ, List.range_succ_eq_map]
    show (if eAt (d :: ds) (e :: es) 0 = true then firstLt (eAt (d :: ds) (e :: es)) (rAt (d :: ds) (e :: es)) (decide (ds.length + 1 < es.length + 1)) ((List.range (min ds.length es.length)).map Nat.succ) else rAt (d :: ds) (e :: es) 0) = ltDs (d :: ds) (e :: es)
    rw [firstLt_map, ltDs]
    have h1 : decide (ds.length + 1 < es.length + 1) = decide (ds.length < es.length) := decide_eq_decide.mpr (by omega)
    rw [h1]
    show (if PyData.eqv d e = true then firstLt (eAt ds es) (rAt ds es) (decide (ds.length < es.length)) (List.range (min ds.length es.length)) else ltD d e) = _
    rw [first_lt ds es]
theorem rcLt_int {A : Around} {s : Shared} (a b : Int) (t u : Tok) : RcLt A s (.int a t) (.int b u) (decide (a < b)) := fun _ _ _ _ h => PyProof.Rows.lt_int h
theorem rcLt_str {A : Around} {s : Shared} (a b : Str) (t u : Tok) : RcLt A s (.str a t) (.str b u) (decide (a.cps.toList < b.cps.toList)) := fun _ _ _ _ h => PyProof.Rows.lt_str h
theorem depth_mem : ∀ {ds : List PyData} {d : PyData}, d ∈ ds → d.depth ≤ PyData.depthAll ds
  | e :: ds, d, h => by
    rw [PyData.depthAll]
    rcases List.mem_cons.mp h with rfl | h
    · exact Nat.le_max_left _ _
    · exact Nat.le_trans (depth_mem h) (Nat.le_max_right _ _)
theorem plain_mem : ∀ {ds : List PyData} {d : PyData}, PyData.plainAll ds = true → d ∈ ds → d.plain = true
  | e :: ds, d, p, h => by
    rw [PyData.plainAll, Bool.and_eq_true] at p
    rcases List.mem_cons.mp h with rfl | h
    · exact p.1
    · exact plain_mem p.2 h
mutual
theorem rcD : ∀ (d e : PyData) (A : Around) (s : Shared) (u v : Value) (as bs : List Addr), Reads s.heap u d as → Reads s.heap v e bs → okD d e = true → d.plain = true → e.plain = true → A.units + d.depth < cLine → RcLt A s u v (ltD d e)
  | .int a, e, A, s, u, v, as, bs, r1, r2, ok, p1, p2, hu => by
    cases e <;> first | (simp [okD] at ok; done) | skip
    cases r1
    cases r2
    rw [ltD]
    exact rcLt_int _ _ _ _
  | .str a, e, A, s, u, v, as, bs, r1, r2, ok, p1, p2, hu => by
    cases e <;> first | (simp [okD] at ok; done) | skip
    cases r1
    cases r2
    rw [ltD]
    exact rcLt_str _ _ _ _
  | .tuple ds, e, A, s, u, v, as, bs, r1, r2, ok, p1, p2, hu => by
    cases e <;> first | (simp [okD] at ok; done) | skip
    rename_i es
    rw [okD] at ok
    rw [PyData.plain] at p1 p2
    rw [ltD]
    cases r1 with
    | tuple ho hc hd hr =>
      cases r2 with
      | tuple ho2 hc2 hd2 hr2 =>
        rename_i a1 o1 us n1 a2 o2 ws n2
        obtain ⟨l1, g1⟩ := ra_get hr
        obtain ⟨l2, g2⟩ := ra_get hr2
        have l1 : us.size = ds.length := by rw [← l1, Array.length_toList]
        have l2 : ws.size = es.length := by rw [← l2, Array.length_toList]
        have hd1 : PyData.depth (.tuple ds) = PyData.depthAll ds + 1 := by simp only [PyData.depth]
        rw [← first_lt ds es, ← l1, ← l2]
        refine RcLt.tuples ⟨_, ho, hc, _, hd⟩ ⟨_, ho2, hc2, _, hd2⟩ (by omega) (fun j h1 h2 => ?_) (fun j h1 h2 _ => ?_)
        · have j1 : ds[j]? = some (ds.getD j .none) := by
            rw [List.getD_eq_getElem?_getD, List.getElem?_eq_getElem (by omega)]
            rfl
          have j2 : es[j]? = some (es.getD j .none) := by
            rw [List.getD_eq_getElem?_getD, List.getElem?_eq_getElem (by omega)]
            rfl
          obtain ⟨as', q1⟩ := g1 j us[j] _ (by rw [Array.getElem?_toList, Array.getElem?_eq_getElem h1]) j1
          obtain ⟨bs', q2⟩ := g2 j ws[j] _ (by rw [Array.getElem?_toList, Array.getElem?_eq_getElem h2]) j2
          have dj := depth_mem (List.mem_of_getElem? j1)
          exact SeqAt.eqAt_plain _ _ A.in1 s _ _ _ _ q1 q2 (plain_mem p1 (List.mem_of_getElem? j1)) (plain_mem p2 (List.mem_of_getElem? j2)) (by
            show A.units + 1 + _ < cLine
            omega)
        · exact rcDs ds es A.in1 s us.toList ws.toList as bs hr hr2 ok p1 p2 (by
            show A.units + 1 + _ < cLine
            omega) j us[j] ws[j] (by rw [Array.getElem?_toList, Array.getElem?_eq_getElem h1]) (by rw [Array.getElem?_toList, Array.getElem?_eq_getElem h2])
  | .none, e, A, s, u, v, as, bs, r1, r2, ok, p1, p2, hu => by cases e <;> simp [okD] at ok
  | .bool _, e, A, s, u, v, as, bs, r1, r2, ok, p1, p2, hu => by cases e <;> simp [okD] at ok
  | .list _, e, A, s, u, v, as, bs, r1, r2, ok, p1, p2, hu => by cases e <;> simp [okD] at ok
  | .dict _, e, A, s, u, v, as, bs, r1, r2, ok, p1, p2, hu => by cases e <;> simp [okD] at ok
theorem rcDs : ∀ (ds es : List PyData) (A : Around) (s : Shared) (us ws : List Value) (as bs : List Addr), ReadsAll s.heap us ds as → ReadsAll s.heap ws es bs → okDs ds es = true → PyData.plainAll ds = true → PyData.plainAll es = true → A.units + PyData.depthAll ds < cLine → ∀ (j : Nat) (u w : Value), us[j]? = some u → ws[j]? = some w → RcLt A s u w (rAt ds es j)
  | [], es, A, s, us, ws, as, bs, r1, r2, ok, p1, p2, hu, j, u, w, e1, e2 => by
    cases r1
    simp at e1
  | d :: ds, [], A, s, us, ws, as, bs, r1, r2, ok, p1, p2, hu, j, u, w, e1, e2 => by
    cases r2
    simp at e2
  | d :: ds, e :: es, A, s, us, ws, as, bs, r1, r2, ok, p1, p2, hu, j, u, w, e1, e2 => by
    rw [okDs, Bool.and_eq_true] at ok
    rw [PyData.plainAll, Bool.and_eq_true] at p1 p2
    rw [PyData.depthAll] at hu
    cases r1 with
    | cons r1 rs1 =>
      cases r2 with
      | cons r2 rs2 =>
        cases j with
        | zero =>
          cases e1
          cases e2
          exact rcD d e A s _ _ _ _ r1 r2 ok.1 p1.1 p2.1 (by have := Nat.le_max_left d.depth (PyData.depthAll ds); omega)
        | succ j => exact rcDs ds es A s _ _ _ _ rs1 rs2 ok.2 p1.2 p2.2 (by have := Nat.le_max_right d.depth (PyData.depthAll ds); omega) j u w (by simpa using e1) (by simpa using e2)
end
def rLtD (K : PySem.W.Frag) : R2 := fun x y H Q => ∃ d e, Dp K H x d ∧ Dp K H y e ∧ okD d e = true ∧ d.plain = true ∧ e.plain = true ∧ d.depth ≤ 60 ∧ Q (.bl (ltD d e)) H
theorem op_ltD {X : Cx} (hu : X.A.units + 64 < cLine) : OpR X (compareOp .Lt) (rLtD X.K) := by
  intro pins s σ H x y v u Q I rx ry h
  obtain ⟨d, e, hd, he, ok, p1, p2, dp, q⟩ := h
  obtain ⟨as, r1⟩ := Dp.reads I d x v hd rx
  obtain ⟨bs, r2⟩ := Dp.reads I e y u he ry
  exact rcD d e X.A s v u as bs r1 r2 ok p1 p2 (by omega) X.prog X.w X.xe _ ⟨.bl _, H, I, rfl, q⟩
end Gd

set_option Elab.async false
set_option linter.all false
set_option maxRecDepth 100000
set_option maxHeartbeats 2000000
/-! Os: sorted(..) of tuples of data: ints, texts, tuples of such, nested. -/
namespace Gd
open PySem PySem.Spec PyProof.Rows L2 PySem.SeqAt SrtO
mutual
/-- ints, texts and tuples alone -/
def tOnly : PyData → Bool
  | .int _ => true
  | .str _ => true
  | .tuple ds => tOnlys ds
  | _ => false
def tOnlys : List PyData → Bool
  | [] => true
  | d :: ds => tOnly d && tOnlys ds
end
mutual
theorem tOnly_plain : ∀ d : PyData, tOnly d = true → d.plain = true
  | .int _, _ => rfl
  | .str _, _ => rfl
  | .tuple ds, h => by
    rw [tOnly] at h
    rw [PyData.plain]
    exact tOnlys_plain ds h
  | .none, h => by simp [tOnly] at h
  | .bool _, h => by simp [tOnly] at h
  | .list _, h => by simp [tOnly] at h
  | .dict _, h => by simp [tOnly] at h
theorem tOnlys_plain : ∀ ds : List PyData, tOnlys ds = true → PyData.plainAll ds = true
  | [], _ => rfl
  | d :: ds, h => by
    rw [tOnlys, Bool.and_eq_true] at h
    rw [PyData.plainAll, tOnly_plain d h.1, tOnlys_plain ds h.2]
    rfl
end
mutual
theorem reads_but {h h' : Heap} {a : Addr} (hk : ∀ b o, b ≠ a → h.get? b = some o → h'.get? b = some o) (ha : ∀ o, h.get? a = some o → o.cls ≠ .type "tuple") : ∀ (d : PyData) (v : Value) (as : List Addr), tOnly d = true → Reads h v d as → Reads h' v d as
  | .int _, v, as, _, r => by
    cases r
    exact Reads.int _ _
  | .str _, v, as, _, r => by
    cases r
    exact Reads.str _ _
  | .tuple ds, v, as, t, r => by
    rw [tOnly] at t
    cases r with
    | tuple ho hc hd hr =>
      exact Reads.tuple (hk _ _ (fun e => by subst e; exact ha _ ho hc) ho) hc hd (readsAll_but hk ha ds _ _ t hr)
  | .none, _, _, t, _ => by simp [tOnly] at t
  | .bool _, _, _, t, _ => by simp [tOnly] at t
  | .list _, _, _, t, _ => by simp [tOnly] at t
  | .dict _, _, _, t, _ => by simp [tOnly] at t
theorem readsAll_but {h h' : Heap} {a : Addr} (hk : ∀ b o, b ≠ a → h.get? b = some o → h'.get? b = some o) (ha : ∀ o, h.get? a = some o → o.cls ≠ .type "tuple") : ∀ (ds : List PyData) (vs : List Value) (as : List Addr), tOnlys ds = true → ReadsAll h vs ds as → ReadsAll h' vs ds as
  | [], vs, as, _, r => by
    cases r
    exact ReadsAll.nil
  | d :: ds, vs, as, t, r => by
    rw [tOnlys, Bool.and_eq_true] at t
    cases r with
    | cons r rs => exact ReadsAll.cons (reads_but hk ha d _ _ t.1 r) (readsAll_but hk ha ds _ _ t.2 rs)
end
/-- what begins with an int, or with a text, for all alike -/
def headK (t : Bool) : PyData → Bool
  | .tuple (.int _ :: _) => t
  | .tuple (.str _ :: _) => !t
  | _ => false
section
variable {prog : Program} {w : World} {A : Around} {s : Shared} {E : Value → Shared → Prop}
theorem oneLt_strs {Q : Bool → Shared → Prop} (c : Bool) {p q : Str} {t u : Tok} (h : Q (decide (p.cps.toList < q.cps.toList)) s) : wpAny (model prog w) A (oneLt' c (.str p t) (.str q u)) Q E s := by
  cases c with
  | true => exact oneLt_str h
  | false => exact PySem.W.kat_one _ _ (PyProof.Rows.lt_str (Q := PySem.W.BoolBack Q) h)
theorem lexD_rest {b fin : Bool} {Q : Bool → Shared → Prop} : ∀ (ds es : List PyData) (us ws : List Value) (i : Nat) (as bs : List Addr), ReadsAll s.heap us ds as → ReadsAll s.heap ws es bs → okDs ds es = true → PyData.plainAll ds = true → PyData.plainAll es = true → A.units + 1 + PyData.depthAll ds < cLine → 0 < i → fin = decide (ds.length < es.length) → Q (ltDs ds es) s → PySem.W.KatLex prog w A b fin Q (us.zip ws) i s
  | [], es, us, ws, i, as, bs, r1, r2, ok, p1, p2, hu, hi, e, q => by
    cases r1
    have z : fin = ltDs [] es := by
      rw [e]
      cases es with
      | nil => rfl
      | cons _ _ =>
        rw [ltDs]
        exact decide_eq_true (Nat.succ_pos _)
    subst z
    exact PySem.W.kat_nil q
  | d :: ds, [], us, ws, i, as, bs, r1, r2, ok, p1, p2, hu, hi, e, q => by
    cases r1
    cases r2
    have z : fin = ltDs (d :: ds) [] := by
      rw [e, ltDs]
      · exact decide_eq_false (Nat.not_lt_zero _)
      · simp
      · simp
    subst z
    exact PySem.W.kat_nil q
  | d :: ds, x :: es, us, ws, i, as, bs, r1, r2, ok, p1, p2, hu, hi, e, q => by
    rw [okDs, Bool.and_eq_true] at ok
    rw [PyData.plainAll, Bool.and_eq_true] at p1 p2
    rw [PyData.depthAll] at hu
    rw [ltDs] at q
    have m1 := Nat.le_max_left d.depth (PyData.depthAll ds)
    have m2 := Nat.le_max_right d.depth (PyData.depthAll ds)
    cases r1 with
    | cons r1 rs1 =>
      cases r2 with
      | cons r2 rs2 =>
        rw [List.zip_cons_cons]
        refine PySem.W.kat_cons (SeqAt.eqAt_plain _ _ A s _ _ _ _ r1 r2 p1.1 p2.1 (by omega) prog w _ _ ?_)
        refine PySem.W.kat_go (fun e1 => ?_) (fun e1 => ?_)
        · rw [if_pos e1] at q
          exact PySem.W.kat_yes (lexD_rest ds es _ _ (i + 1) _ _ rs1 rs2 ok.2 p1.2 p2.2 (by omega) (Nat.succ_pos _) (by
            rw [e]
            exact decide_eq_decide.mpr (by simp)) q)
        · rw [if_neg (by rw [e1]; exact Bool.false_ne_true)] at q
          have ni : (b && i == 0) = false := by
            have : (i == 0) = false := by simp; omega
            rw [this, Bool.and_false]
          refine PySem.W.kat_no ?_
          rw [ni]
          exact PySem.W.kat_one _ _ (rcD d x A s _ _ _ _ r1 r2 ok.1 p1.1 p2.1 (by omega) prog w _ _ q)
/-- v is a tuple of such data -/
structure IsDt (h : Heap) (t : Bool) (v : Value) (d : PyData) : Prop where
  rd : ∃ as, Reads h v d as
  on : tOnly d = true
  hd : headK t d = true
theorem IsDt.tup {h : Heap} {t : Bool} {v : Value} {d : PyData} (x : IsDt h t v d) : ∃ (a : Addr) (o : Obj) (its : Array Value) (n : Nat) (ds : List PyData) (as : List Addr) (f : PyData) (u : Value), v = .ref a ∧ d = .tuple (f :: ds) ∧ h.get? a = some o ∧ o.cls = .type "tuple" ∧ o.data = .seq its n ∧ ReadsAll h its.toList (f :: ds) as ∧ its[0]? = some u ∧ ((t = true ∧ ∃ i k, f = .int i ∧ u = .int i k) ∨ (t = false ∧ ∃ x k, f = .str x ∧ u = .str x k)) := by
  obtain ⟨⟨as, r⟩, _, hd⟩ := x
  cases d with
  | tuple ds =>
    cases r with
    | tuple ho hc hd' hr =>
      rename_i a o its n
      cases ds with
      | nil => simp [headK] at hd
      | cons f ds =>
        obtain ⟨l, g⟩ := ra_get hr
        cases hi : its[0]? with
        | none =>
          have : its.size = 0 := by
            rw [Array.getElem?_eq_none_iff] at hi
            omega
          rw [Array.length_toList, this] at l
          cases l
        | some u =>
          obtain ⟨bs, ru⟩ := g 0 u f (by rw [Array.getElem?_toList]; exact hi) rfl
          refine ⟨a, o, its, n, ds, _, f, u, rfl, rfl, ho, hc, hd', hr, hi, ?_⟩
          cases f with
          | int i => cases ru; exact .inl ⟨by simpa [headK] using hd, _, _, rfl, rfl⟩
          | str x => cases ru; exact .inr ⟨by simpa [headK] using hd, _, _, rfl, rfl⟩
          | _ => simp [headK] at hd
  | _ => simp [headK] at hd
theorem dt_cmp {vs : List Value} {k : Value → PyData} {t : Bool} (hu : A.units + 64 < cLine) (hp : ∀ v ∈ vs, IsDt s.heap t v (k v)) (dp : ∀ v ∈ vs, (k v).depth ≤ 60) (ok : ∀ v ∈ vs, ∀ u ∈ vs, okD (k v) (k u) = true) : Cmp prog w A s (tuples' true) (fun p => p.1 ∈ vs) (lt2 fun v u => ltD (k v) (k u)) := by
  intro p q hm hm'
  show wpAny (model prog w) A (keyLt' (tuples' true) p.1 q.1) (fun r s' => s' = s ∧ r = ltD (k p.1) (k q.1)) (fun _ _ => False) s
  have h1 := hp _ hm
  have h2 := hp _ hm'
  have o1 := h1.on
  have o2 := h2.on
  have oo := ok _ hm _ hm'
  have d1 := dp _ hm
  generalize k p.1 = d at h1 o1 oo d1 ⊢
  generalize k q.1 = e at h2 o2 oo ⊢
  obtain ⟨a, o, its, n, ds, as, f, u, e1, rfl, ho, hc, hd, hr, hi, hf⟩ := h1.tup
  obtain ⟨a', o', its', n', es, bs, f', u', e2, rfl, ho', hc', hd', hr', hi', hf'⟩ := h2.tup
  rw [e1, e2]
  obtain ⟨l1, _⟩ := ra_get hr
  obtain ⟨l2, _⟩ := ra_get hr'
  have p1 := tOnly_plain _ o1
  have p2 := tOnly_plain _ o2
  rw [PyData.plain, PyData.plainAll, Bool.and_eq_true] at p1 p2
  rw [okD, okDs, Bool.and_eq_true] at oo
  have d1 : PyData.depthAll ds ≤ 60 := by
    rw [PyData.depth, PyData.depthAll] at d1
    have := Nat.le_max_right f.depth (PyData.depthAll ds)
    omega
  refine PySem.W.kat_lt ho hd ho' hd' ?_
  rw [ltD, ltDs]
  have ez : decide (its.size < its'.size) = decide (ds.length < es.length) := by
    rw [Array.length_toList, List.length_cons] at l1 l2
    exact decide_eq_decide.mpr (by omega)
  rw [ez]
  obtain ⟨il⟩ := its
  obtain ⟨il'⟩ := its'
  cases hr with
  | cons r1 rs1 =>
    cases hr' with
    | cons r2 rs2 =>
      have ru := hi
      have ru' := hi'
      simp only [List.getElem?_toArray, List.getElem?_cons_zero, Option.some.injEq] at ru ru'
      subst ru ru'
      show PySem.W.KatLex prog w A true _ _ ((_ :: _).zip (_ :: _)) 0 s
      rw [List.zip_cons_cons]
      have rest : ∀ Q : Bool → Shared → Prop, Q (ltDs ds es) s → PySem.W.KatLex prog w A true (decide (ds.length < es.length)) Q (List.zip _ _) 1 s := fun Q q => lexD_rest ds es _ _ 1 _ _ rs1 rs2 oo.2 p1.2 p2.2 (by omega) (by decide) rfl q
      rcases hf with ⟨_, i, k1, rfl, rfl⟩ | ⟨ht, x, k1, rfl, rfl⟩
      · rcases hf' with ⟨_, j, k2, rfl, rfl⟩ | ⟨_, y, k2, rfl, rfl⟩
        · refine PySem.W.kat_cons (SeqAt.EqAt.int_int i k1 j k2 prog w _ _ ?_)
          refine PySem.W.kat_go (fun e1 => ?_) (fun e1 => ?_)
          · refine PySem.W.kat_yes (rest _ ⟨rfl, ?_⟩)
            rw [if_pos (by simpa [PyData.eqv] using e1)]
          · refine PySem.W.kat_no (TS.oneLt_ints _ ⟨rfl, ?_⟩)
            rw [if_neg (by simpa [PyData.eqv] using e1), ltD]
        · simp [okD] at oo
      · rcases hf' with ⟨_, j, k2, rfl, rfl⟩ | ⟨_, y, k2, rfl, rfl⟩
        · simp [okD] at oo
        · refine PySem.W.kat_cons (SeqAt.EqAt.str_str x k1 y k2 prog w _ _ ?_)
          refine PySem.W.kat_go (fun e1 => ?_) (fun e1 => ?_)
          · refine PySem.W.kat_yes (rest _ ⟨rfl, ?_⟩)
            rw [if_pos (by simpa [PyData.eqv] using e1)]
          · refine PySem.W.kat_no (oneLt_strs _ ⟨rfl, ?_⟩)
            rw [if_neg (by simpa [PyData.eqv] using e1), ltD]
theorem firstsD {h : Heap} {t : Bool} {k : Value → PyData} : ∀ vs : List Value, (∀ v ∈ vs, IsDt h t v (k v)) → ∃ fs, PySem.W.KatTups h vs fs ∧ fs.length = vs.length ∧ ∀ f ∈ fs, (t = true ∧ ∃ i k, f = .int i k) ∨ (t = false ∧ ∃ x k, f = .str x k)
  | [], _ => ⟨[], .nil, rfl, fun f hf => by cases hf⟩
  | v :: vs, hp => by
    obtain ⟨fs, kt, l, hf⟩ := firstsD (h := h) (k := k) vs fun u hu => hp u (List.mem_cons_of_mem _ hu)
    obtain ⟨a, o, its, n, ds, as, f, u, e1, _, ho, hc, hd, hr, hi, hfu⟩ := (hp v List.mem_cons_self).tup
    subst e1
    exact ⟨u :: fs, .cons ho hc hd hi kt, by rw [List.length_cons, l]; rfl, fun f' hm => by
      rcases List.mem_cons.mp hm with rfl | hm
      · rcases hfu with ⟨e, i, k, _, rfl⟩ | ⟨e, x, k, _, rfl⟩
        · exact .inl ⟨e, _, _, rfl⟩
        · exact .inr ⟨e, _, _, rfl⟩
      · exact hf f' hm⟩
theorem dts_sortable {a : Addr} {vs : List Value} {k : Value → PyData} {t : Bool} (h0 : 0 < vs.length) (hu : A.units + 64 < cLine) (hp : ∀ v ∈ vs, IsDt s.heap t v (k v)) (dp : ∀ v ∈ vs, (k v).depth ≤ 60) (ok : ∀ v ∈ vs, ∀ u ∈ vs, okD (k v) (k u) = true) (ha : ∀ o, s.heap.get? a = some o → o.cls ≠ .type "tuple") : SortableO prog w A s a vs fun v u => ltD (k v) (k u) := by
  intro h' keep
  have hp' : ∀ v ∈ vs, IsDt h' t v (k v) := fun v hm => by
    obtain ⟨⟨as, r⟩, h2, h3⟩ := hp v hm
    exact ⟨⟨as, reads_but keep ha _ _ _ h2 r⟩, h2, h3⟩
  obtain ⟨fs, h1, h2, h3⟩ := firstsD vs hp'
  refine ⟨tuples' true, fun Q E hq => ?_, dt_cmp hu hp' dp ok⟩
  cases t with
  | true =>
    refine PySem.W.kat_kind (T := .type "int") h1 (by omega) (fun f hm => ?_) (by rfl) ?_
    · rcases h3 f hm with ⟨_, i, k, rfl⟩ | ⟨e, _⟩
      · exact PySem.W.Looks.now
      · cases e
    · have e : (Value.type "int" != Value.type "tuple") = true := by first | decide +kernel | rfl | decide
      rw [e]
      exact hq
  | false =>
    refine PySem.W.kat_kind (T := .type "str") h1 (by omega) (fun f hm => ?_) (by rfl) ?_
    · rcases h3 f hm with ⟨e, _⟩ | ⟨_, x, k, rfl⟩
      · cases e
      · exact PySem.W.Looks.now
    · have e : (Value.type "str" != Value.type "tuple") = true := by first | decide +kernel | rfl | decide
      rw [e]
      exact hq
end
abbrev ltK (k : V → PyData) (x y : V) : Bool := ltD (k x) (k y)
structure SrtX (K : PySem.W.Frag) (H : Hp) (t : Bool) (k : V → PyData) (x : V) : Prop where
  rf : ∃ a, x = V.ref a
  dp : Dp K H x (k x)
  on : tOnly (k x) = true
  hd : headK t (k x) = true
  dq : (k x).depth ≤ 60
/-- sorted(xs), xs a list or tuple of tuples of data -/
def rSortDt (K : PySem.W.Frag) : List V → Hp → VK → Prop := fun vs H Q => ∃ (a : Addr) (xs : List V) (k : V → PyData) (t : Bool), vs = [V.ref a] ∧ (SqL K H a xs ∨ SqT K H a xs) ∧ Swo (ltK k) ∧ (∀ x ∈ xs, SrtX K H t k x) ∧ (∀ x ∈ xs, ∀ y ∈ xs, okD (k x) (k y) = true) ∧
  ∀ ys p, Srtd (ltK k) ys → Stb (ltK k) ys xs → H p = none → Q (.ref p) (upd H p (.lst ys))
theorem call_sortDt {X : Cx} (hu : X.A.units + 100 < cLine) : CallR X (.builtin "sorted") (rSortDt X.K) := by
  intro pins s σ H vs us Q I r h
  obtain ⟨a, xs, k, t, rfl, hs, O, hx, ok, q⟩ := h
  obtain ⟨u, rfl, ru⟩ := vals1 r
  obtain rfl : u = Value.ref a := ru
  have Ov : Swo fun v u : Value => ltD (k (backV v)) (k (backV u)) := ⟨fun x y => O.1 _ _, fun x y z => O.2 _ _ _⟩
  have items : ∀ {its : List Value}, Vals xs its → xs = its.map backV ∧ (∀ u ∈ its, ∃ a, u = Value.ref a) ∧ (∀ v ∈ its, IsDt s.heap t v (k (backV v)) ∧ (k (backV v)).depth ≤ 60) ∧ ∀ v ∈ its, ∀ u ∈ its, okD (k (backV v)) (k (backV u)) = true := fun {its} rv => by
    obtain ⟨e1, e2⟩ := refs_back rv fun x m => (hx x m).rf
    have hm : ∀ v ∈ its, backV v ∈ xs := fun v hv => by rw [e1]; exact List.mem_map.mpr ⟨_, hv, rfl⟩
    refine ⟨e1, e2, fun v hv => ?_, fun v hv u hu => ok _ (hm v hv) _ (hm u hu)⟩
    have z := hx _ (hm v hv)
    obtain ⟨b, rfl⟩ := e2 v hv
    obtain ⟨as, r⟩ := Dp.reads I _ _ (Value.ref b) z.dp rfl
    exact ⟨⟨⟨as, r⟩, z.on, z.hd⟩, z.dq⟩
  have fin : ∀ {its out : List Value} {h' : Heap} {d c : Nat}, Vals xs its → xs.length ≤ sizeLine → (∀ b o, s.heap.get? b = some o → h'.get? b = some o) → s.heap.objs.size ≤ d → h'.get? d = some (seqObj "list" out.toArray c) →
      Srtd (fun v u => ltD (k (backV v)) (k (backV u))) out → Stb (fun v u => ltD (k (backV v)) (k (backV u))) out its → EP X pins σ Q (.ref d) { s with heap := h' } := fun {its out h' d c} rv hz kp hd hn h1 h2 => by
    obtain ⟨e1, e2, _⟩ := items rv
    have h3 : ∀ u ∈ out, ∃ a, u = Value.ref a := fun u hu => e2 u (h2.perm.mem_iff.mp hu)
    have hb : Stb (ltK k) (out.map backV) xs := by
      rw [e1]
      exact Stb.map O backV h2
    refine ⟨.ref d, upd H d (.lst (out.map backV)), I.laid (t' := s.toks) kp hd ⟨?_, out, c, vals_back h3, hn⟩, rfl, q _ d (srtd_map h1) hb (I.hok.fresh hd)⟩
    rw [hb.len]
    exact hz
  have keepD : ∀ {h' : Heap} {v : Value} {d : PyData}, (∀ b o, s.heap.get? b = some o → h'.get? b = some o) → IsDt s.heap t v d → IsDt h' t v d := fun kp z => by
    obtain ⟨⟨as, r⟩, h2, h3⟩ := z
    exact ⟨⟨as, Reads.keeps kp r⟩, h2, h3⟩
  rcases hs with hs | hs
  · obtain ⟨its, rv, hl, hz⟩ := I.list hs
    obtain ⟨e1, e2, e3, e4⟩ := items rv
    refine sorted_ord Ov hl.isList (by rw [← rv.length]; exact hz) (fun h2 h₁ a' ha kk => ?_) fun out h1 h2 => ?_
    · refine dts_sortable (s := { s with heap := h₁ }) (t := t) (by omega) (by show X.A.units + 1 + 1 + 64 < cLine; omega) (fun v hm => keepD (fun b o e => (kk b o e).2) (e3 v hm).1) (fun v hm => (e3 v hm).2) e4 fun o e => ?_
      have e' : some o = some (seqObj "list" its.toArray 0) := e.symm.trans ha
      cases e'
      intro c
      exact absurd (Value.type.inj c) (by decide)
    · obtain ⟨c, hcc⟩ := sortedAll_at s.heap its out.toArray
      exact fin rv hz (fun b o e => sortedAll_old e) (Nat.le_succ _) hcc h1 h2
  · obtain ⟨its, rv, pt, hz⟩ := I.tuple hs
    obtain ⟨e1, e2, e3, e4⟩ := items rv
    obtain ⟨o, ho, hc, n, hd⟩ := id pt
    have len : its.length ≤ sizeLine := by rw [← rv.length]; exact hz
    refine Calls.call_function_entry kind_sorted plain_sorted entry_sorted (args_sorted1 _) ?_
    unfold Builtin.«sorted»
    refine wpAny_bind (m := checkCount "sorted" 1 1 _) (wpAny_pure ?_)
    refine wpAny_bind (gather_tuple (A := X.A.in1) ho hc hd (by rw [List.size_toArray]; exact len) ?_)
    generalize hg : gath s.heap its.toArray = h'
    have hk : ∀ b u, s.heap.get? b = some u → h'.get? b = some u := fun b u e => by
      rw [← hg]
      exact gath_old e
    show wpAny _ _ _ _ _ { s with heap := h' }
    refine wpAny_bind (wpAny_newList ?_ (by show its.length ≤ _; exact len))
    have hoL : (h'.push (seqObj "list" its.toArray 0)).get? h'.objs.size = some (seqObj "list" its.toArray 0) := Heap.get?_push_size _ rfl
    have hz0 : s.heap.objs.size ≤ h'.objs.size := by
      rw [← hg, gath_size]
      exact Nat.le_succ _
    refine wpAny_bind (wpAny_holding (wpAny_call_entry slot_list_sort ⟨_, hoL, rfl⟩ entry_list_sort (list_sort_ord Ov hoL len (fun h2 => ?_) fun out h1 h2 => ⟨_, rfl, ?_⟩) (args_list_sort _)))
    · refine dts_sortable (t := t) (by omega) (by show X.A.units + 1 + 1 + 64 < cLine; omega) (fun v hm => keepD (fun b o e => Heap.get?_push_of_some _ (hk b o e)) (e3 v hm).1) (fun v hm => (e3 v hm).2) e4 fun o e => ?_
      have e' : some o = some (seqObj "list" its.toArray 0) := e.symm.trans hoL
      cases e'
      intro c
      exact absurd (Value.type.inj c) (by decide)
    · obtain ⟨c, hcc⟩ := sortedHeap_at (vs := its) (out := out.toArray) hoL
      have keep : ∀ b u, s.heap.get? b = some u → (sortedHeap (h'.push (seqObj "list" its.toArray 0)) h'.objs.size its out.toArray).get? b = some u := by
        intro b u e
        have e2 := hk b u e
        have lt := Heap.lt_size e2
        rw [sortedHeap_old (Nat.ne_of_lt lt) (by rw [size_push']; exact Nat.lt_succ_of_lt lt)]
        exact Heap.get?_push_of_some _ e2
      exact wpAny_pure ⟨_, rfl, fin rv hz keep hz0 hcc h1 h2⟩
end Gd

set_option Elab.async false
set_option linter.all false
set_option maxRecDepth 100000
set_option maxHeartbeats 2000000
/-! Dn: dicts whose keys are tuples of data, nested, all of whose values are True: d[k] = True, sorted(d). -/
namespace Gd
open PySem PySem.Spec PyProof.Rows L2 PySem.SeqAt SrtO
mutual
def nk : PyData → NestedKey
  | .int i => .num i
  | .str x => .text x
  | .tuple ds => .tup (nks ds)
  | _ => .none
def nks : List PyData → List NestedKey
  | [] => []
  | d :: ds => nk d :: nks ds
end
mutual
theorem nk_depth : ∀ d : PyData, (nk d).depth ≤ d.depth
  | .int _ => by rw [nk, NestedKey.depth]; exact Nat.zero_le _
  | .str _ => by rw [nk, NestedKey.depth]; exact Nat.zero_le _
  | .tuple ds => by
    rw [nk, NestedKey.depth, PyData.depth]
    have := nks_depth ds
    omega
  | .none => by simp [nk, NestedKey.depth]
  | .bool _ => by simp [nk, NestedKey.depth]
  | .list _ => by simp [nk, NestedKey.depth]
  | .dict _ => by simp [nk, NestedKey.depth]
theorem nks_depth : ∀ ds : List PyData, NestedKey.depthAll (nks ds) ≤ PyData.depthAll ds
  | [] => by rw [nks, NestedKey.depthAll]; exact Nat.zero_le _
  | d :: ds => by
    rw [nks, NestedKey.depthAll, PyData.depthAll]
    have h1 := nk_depth d
    have h2 := nks_depth ds
    exact Nat.max_le.mpr ⟨Nat.le_trans h1 (Nat.le_max_left _ _), Nat.le_trans h2 (Nat.le_max_right _ _)⟩
end
mutual
theorem nk_is {h : Heap} : ∀ (d : PyData) (v : Value) (as : List Addr), tOnly d = true → Reads h v d as → NestedIs h (nk d) v
  | .int _, v, as, _, r => by
    cases r
    rw [nk]
    exact .int _ _
  | .str _, v, as, _, r => by
    cases r
    rw [nk]
    exact .text _ _
  | .tuple ds, v, as, t, r => by
    rw [tOnly] at t
    cases r with
    | tuple ho hc hd hr =>
      rw [nk]
      exact .tup ho hc hd (nks_are ds _ _ t hr)
  | .none, _, _, t, _ => by simp [tOnly] at t
  | .bool _, _, _, t, _ => by simp [tOnly] at t
  | .list _, _, _, t, _ => by simp [tOnly] at t
  | .dict _, _, _, t, _ => by simp [tOnly] at t
theorem nks_are {h : Heap} : ∀ (ds : List PyData) (vs : List Value) (as : List Addr), tOnlys ds = true → ReadsAll h vs ds as → NestedAll h (nks ds) vs
  | [], vs, as, _, r => by
    cases r
    rw [nks]
    exact .nil
  | d :: ds, vs, as, t, r => by
    rw [tOnlys, Bool.and_eq_true] at t
    cases r with
    | cons r rs =>
      rw [nks]
      exact .cons (nk_is d _ _ t.1 r) (nks_are ds _ _ t.2 rs)
end
abbrev NX := List (PyData × Addr)
def rowN (w : World) (p : PyData × Addr) : DictEntry := ⟨(nk p.1).hash w, .ref p.2, .bool true⟩
structure DictN0 (w : World) (h : Heap) (d : Addr) (xs : NX) : Prop where
  ex : ∃ (o : Obj) (es : Array DictEntry) (ep : Nat), h.get? d = some o ∧ o.ExactDict ∧ o.data = .dict es ep ∧ es.toList = xs.map (rowN w)
  nd : (xs.map fun p => nk p.1).Nodup
  lo : (d == sysModules) = false
  few : xs.length ≤ sizeLine
def DictNO (w : World) (d : Addr) (xs : NX) : HO := .ext fun h => DictN0 w h d xs
theorem dictN_new {P : Program} {w : World} {H : Hp} {h : Heap} {a : Addr} {xs : NX} (R : DictN0 w h a xs) : ObjOk P w H h a (DictNO w a xs) := by
  obtain ⟨o, es, ep, ho, r⟩ := R.ex
  refine ⟨R, ⟨o, ho⟩, fun h1 h2 p k => ?_⟩
  obtain ⟨o', es', ep', ho', r'⟩ := DictN0.ex p
  exact ⟨⟨o', es', ep', k o' ho', r'⟩, p.nd, p.lo, p.few⟩
/-- such a dict, or an empty one -/
def IsDn (w : World) (H : Hp) (a : Addr) (xs : NX) : Prop := H a = some (DictNO w a xs) ∨ (xs = [] ∧ H a = some (.dK []))
theorem IsDn.ok {P : Program} {w : World} {H : Hp} {h : Heap} {a : Addr} {xs : NX} (x : HOk P w H h) (e : IsDn w H a xs) : DictN0 w h a xs := by
  rcases e with e | ⟨rfl, e⟩
  · exact (x a _ e).1
  · obtain ⟨_, lo, vs, kv, o, es, ep, ho, hx, hd, hks, he, hn⟩ := x a _ e
    cases kv
    refine ⟨⟨o, es, ep, ho, hx, hd, ?_⟩, List.nodup_nil, lo, Nat.zero_le _⟩
    generalize es.toList = l at he
    cases he
    rfl
/-- the keys, as they stand in the heap -/
structure NKey (K : PySem.W.Frag) (H : Hp) (p : PyData × Addr) : Prop where
  dp : Dp K H (.ref p.2) p.1
  on : tOnly p.1 = true
  dq : p.1.depth ≤ 8
def putN (xs : NX) (d : PyData) (b : Addr) : NX := if (xs.any fun p => decide (nk p.1 = nk d)) = true then xs else xs ++ [(d, b)]
theorem at_none {xs : NX} {k : NestedKey} (h : (xs.any fun p => decide (nk p.1 = k)) = false) : atKey (xs.map fun p => (nk p.1, p.2, Value.bool true)) k = none := by
  induction xs with
  | nil => rfl
  | cons p xs ih =>
    rw [List.any_cons, Bool.or_eq_false_iff, decide_eq_false_iff_not] at h
    have z := ih h.2
    unfold atKey at z ⊢
    simpa [List.find?_cons, h.1] using z
theorem at_some {xs : NX} {k : NestedKey} (h : (xs.any fun p => decide (nk p.1 = k)) = true) : ∃ b, atKey (xs.map fun p => (nk p.1, p.2, Value.bool true)) k = some (b, .bool true) := by
  induction xs with
  | nil => cases h
  | cons p xs ih =>
    by_cases e : nk p.1 = k
    · refine ⟨p.2, ?_⟩
      simp [atKey, List.find?_cons, e]
    · rw [List.any_cons, decide_eq_false e, Bool.false_or] at h
      obtain ⟨b, z⟩ := ih h
      refine ⟨b, ?_⟩
      unfold atKey at z ⊢
      simpa [List.find?_cons, e] using z
theorem putAt_same (xs : NX) (k : NestedKey) : (xs.map fun p => (nk p.1, p.2, Value.bool true)).map (putAt k (.bool true)) = xs.map fun p => (nk p.1, p.2, Value.bool true) := by
  rw [List.map_map]
  refine List.map_congr_left fun p _ => ?_
  show (if nk p.1 = k then (nk p.1, p.2, Value.bool true) else (nk p.1, p.2, Value.bool true)) = _
  split <;> rfl
section
variable {X : Cx}
theorem NKey.is {pins : List (Addr × Obj)} {s : Shared} {σ : L2.St} {H : Hp} (I : Inv X pins σ H s) {p : PyData × Addr} (h : NKey X.K H p) : (nestedKind X.prog X.w).is s.heap (nk p.1) p.2 := by
  obtain ⟨as, r⟩ := Dp.reads I _ _ (Value.ref p.2) h.dp rfl
  exact ⟨nk_is _ _ _ h.on r, Nat.le_trans (nk_depth _) h.dq⟩
theorem dn_of {pins : List (Addr × Obj)} {s : Shared} {σ : L2.St} {H : Hp} (I : Inv X pins σ H s) {a : Addr} {xs : NX} (e : IsDn X.w H a xs) (hk : ∀ p ∈ xs, NKey X.K H p) : s.heap.DictOfH (nestedKind X.prog X.w) a (xs.map fun p => (nk p.1, p.2, Value.bool true)) := by
  have R := e.ok I.hok
  obtain ⟨o, es, ep, ho, hx, hd, he⟩ := R.ex
  refine ⟨o, es, ep, ho, hx, hd, ?_, fun x hx => ?_, ?_⟩
  · rw [he, List.map_map]
    rfl
  · obtain ⟨p, hp, rfl⟩ := List.mem_map.mp hx
    exact (hk p hp).is I
  · rw [List.map_map]
    exact R.nd
theorem dn_put {A : Around} {E : Value → Shared → Prop} {pins : List (Addr × Obj)} {s : Shared} {σ : L2.St} {H : Hp} {a b : Addr} {xs : NX} {d : PyData} {Q : Unit → Shared → Prop} (hu : A.units + 64 < cLine) (I : Inv X pins σ H s) (e : IsDn X.w H a xs) (hk : ∀ p ∈ xs, NKey X.K H p) (hd : NKey X.K H (d, b)) (hz : xs.length < sizeLine)
    (h : ∀ s', Inv X pins σ (upd H a (DictNO X.w a (putN xs d b))) s' → Q () s') : wpAny (model X.prog X.w) A (setItem (.ref a) (.ref b) (.bool true)) Q E s := by
  have R := e.ok I.hok
  refine wpAny_setItem_heap (hsz := by rw [List.length_map]; omega) (knd := nestedKind X.prog X.w) (show A.units + 1 + 8 < cLine by omega) (hd.is I) (dn_of I e hk) fun h' dd' hs => h _ ?_
  obtain ⟨q, es, ep, hq, h2, h3, h4, _, h5⟩ := dd'
  have mu : Mut (H a) := by
    rcases e with e | ⟨_, e⟩ <;> rw [e] <;> exact True.intro
  refine d_write I mu hs ⟨q, hq⟩ (dictN_new ?_)
  unfold putN
  by_cases c : (xs.any fun p => decide (nk p.1 = nk d)) = true
  · rw [if_pos c]
    obtain ⟨b', z⟩ := at_some c
    rw [storedH_old z, putAt_same] at h4
    refine ⟨⟨q, es, ep, hq, h2, h3, ?_⟩, R.nd, R.lo, R.few⟩
    rw [h4, List.map_map]
    rfl
  · rw [if_neg c]
    have c : (xs.any fun p => decide (nk p.1 = nk d)) = false := by simpa using c
    have z := at_none c
    rw [storedH_new z] at h4 h5
    refine ⟨⟨q, es, ep, hq, h2, h3, ?_⟩, ?_, R.lo, by rw [List.length_append]; exact hz⟩
    · rw [h4, List.map_append, List.map_append, List.map_map]
      rfl
    · rw [List.map_append, List.map_map] at h5
      rw [List.map_append]
      exact h5
def sDPutN (K : PySem.W.Frag) (w : World) (td ty tv : TE) : TS := fun D σ H => tv σ H fun v H1 => td σ H1 fun x H2 => ty σ H2 fun y H3 => ∃ (a b : Addr) (xs : NX) (d : PyData), v = .bl true ∧ x = .ref a ∧ y = .ref b ∧ IsDn w H3 a xs ∧ (∀ p ∈ xs, NKey K H3 p) ∧ NKey K H3 (d, b) ∧ xs.length < sizeLine ∧ D.nx σ (upd H3 a (DictNO w a (putN xs d b)))
theorem ps_dputN {o i value : Expr} {td ty tv : TE} {pos pos' : Pos} (hu : X.A.units + 64 < cLine) (ho : PE X o td) (hi : PE X i ty) (hv : PE X value tv) (hs : swapsWith value (some (.Subscript o i pos')) pos.line X.env = pure false := by rfl) :
    PS X (.Assign [.Subscript o i pos'] value pos) (sDPutN X.K X.w td ty tv) := by
  refine ⟨fun pins s σ H D I h => ?_⟩
  refine wpAny_Assign_Subscript (thn (hv.run pins s σ H _ I h) fun r s1 ⟨v, H1, I1, rv, q1⟩ => thn (ho.run pins s1 σ H1 _ I1 q1) fun u s2 ⟨x, H2, I2, rx, q2⟩ => thn (hi.run pins s2 σ H2 _ I2 q2) fun iv s3 ⟨y, H3, I3, ry, a, b, xs, d, ev, ex, ey, e, hk, hd, hz, q3⟩ => ?_) hs
  subst ev ex ey
  cases (show u = Value.ref a from rx)
  cases (show iv = Value.ref b from ry)
  cases (show r = Value.bool true from rv)
  exact dn_put hu I3 e hk hd hz fun s4 I4 => ⟨σ, _, I4, q3⟩
/-- sorted(d), d such a dict: its keys -/
def rSortDn (K : PySem.W.Frag) (w : World) : List V → Hp → VK → Prop := fun vs H Q => ∃ (a : Addr) (xs : NX) (k : V → PyData) (t : Bool), vs = [V.ref a] ∧ IsDn w H a xs ∧ Swo (ltK k) ∧ (∀ p ∈ xs, SrtX K H t k (.ref p.2)) ∧ (∀ p ∈ xs, ∀ q ∈ xs, okD (k (.ref p.2)) (k (.ref q.2)) = true) ∧
  ∀ ys p, Srtd (ltK k) ys → Stb (ltK k) ys (xs.map fun p => V.ref p.2) → H p = none → Q (.ref p) (upd H p (.lst ys))
theorem call_sortDn (hcalm : X.calm = true) (hu : X.A.units + 100 < cLine) : CallR X (.builtin "sorted") (rSortDn X.K X.w) := by
  intro pins s σ H vs us Q I r h
  obtain ⟨a, nx, k, t, rfl, hs, O, hx, ok, q⟩ := h
  obtain ⟨u, rfl, ru⟩ := vals1 r
  obtain rfl : u = Value.ref a := ru
  have R := hs.ok I.hok
  obtain ⟨o, es, ep, ho, hex, hdt, he⟩ := R.ex
  have lE : es.size = nx.length := by
    rw [← Array.length_toList, he, List.length_map]
  have len : es.size ≤ sizeLine := by rw [lE]; exact R.few
  refine Calls.call_function_entry PyProof.Rows.kind_sorted PyProof.Rows.plain_sorted PyProof.Rows.entry_sorted (PyProof.Rows.args_sorted1 _) ?_
  unfold Builtin.«sorted»
  refine wpAny_bind (m := checkCount "sorted" 1 1 _) (wpAny_pure ?_)
  refine wpAny_bind (PySem.W.kdu_collect (A := X.A.in1) (kdl_raw (prog := X.prog) (w := X.w) R.lo hex hdt) (I.ok.hd hcalm) ho len fun h' tk acc hk hacc => ?_)
  have ea : acc.toList = nx.map fun p => Value.ref p.2 := by
    have hl : acc.toList.length = nx.length := by rw [Array.length_toList, hacc.1]; exact lE
    apply List.ext_getElem?
    intro j
    rw [List.getElem?_map]
    cases hj : acc.toList[j]? with
    | none =>
      have h1 := List.getElem?_eq_none_iff.mp hj
      rw [List.getElem?_eq_none (by omega)]
      rfl
    | some v =>
      obtain ⟨en, hen, hv⟩ := hacc.2 j v (by rw [← Array.getElem?_toList]; exact hj)
      rw [← Array.getElem?_toList, he, List.getElem?_map] at hen
      cases hb : nx[j]? with
      | none => rw [hb] at hen; cases hen
      | some p =>
        rw [hb] at hen
        cases hen
        rw [hv]
        rfl
  have I1 : Inv X pins σ H { s with heap := h', toks := tk } := I.kept hk
  generalize hits : acc.toList = its at ea
  have Ov : Swo fun v u : Value => ltD (k (backV v)) (k (backV u)) := ⟨fun x y => O.1 _ _, fun x y z => O.2 _ _ _⟩
  have e1 : (nx.map fun p => V.ref p.2) = its.map backV := by
    rw [ea, List.map_map]
    rfl
  have e2 : ∀ u ∈ its, ∃ a, u = Value.ref a := fun u hu => by
    rw [ea] at hu
    obtain ⟨p, _, rfl⟩ := List.mem_map.mp hu
    exact ⟨_, rfl⟩
  have e3 : ∀ v ∈ its, IsDt s.heap t v (k (backV v)) ∧ (k (backV v)).depth ≤ 60 := fun v hv => by
    rw [ea] at hv
    obtain ⟨p, hp, rfl⟩ := List.mem_map.mp hv
    have z := hx p hp
    obtain ⟨as, r⟩ := Dp.reads I _ _ (Value.ref p.2) z.dp rfl
    exact ⟨⟨⟨as, r⟩, z.on, z.hd⟩, z.dq⟩
  have e4 : ∀ v ∈ its, ∀ u ∈ its, okD (k (backV v)) (k (backV u)) = true := fun v hv u hu => by
    rw [ea] at hv hu
    obtain ⟨p, hp, rfl⟩ := List.mem_map.mp hv
    obtain ⟨p', hp', rfl⟩ := List.mem_map.mp hu
    exact ok p hp p' hp'
  have keepD : ∀ {h' : Heap} {v : Value} {d : PyData}, (∀ b o, s.heap.get? b = some o → h'.get? b = some o) → IsDt s.heap t v d → IsDt h' t v d := fun kp z => by
    obtain ⟨⟨as, r⟩, h2, h3⟩ := z
    exact ⟨⟨as, Reads.keeps kp r⟩, h2, h3⟩
  have len2 : its.length ≤ sizeLine := by rw [ea, List.length_map]; exact R.few
  refine wpAny_bind (wpAny_newList ?_ (by exact len2))
  have hoL : (h'.push (seqObj "list" its.toArray 0)).get? h'.objs.size = some (seqObj "list" its.toArray 0) := Heap.get?_push_size _ rfl
  show wpAny _ _ _ _ _ { s with heap := h'.push (seqObj "list" its.toArray 0), toks := tk }
  refine wpAny_bind (wpAny_holding (wpAny_call_entry slot_list_sort ⟨_, hoL, rfl⟩ entry_list_sort (list_sort_ord Ov hoL len2 (fun h2 => ?_) fun out h1 h2 => ⟨_, rfl, ?_⟩) (args_list_sort _)))
  · refine dts_sortable (t := t) (by omega) (by show X.A.units + 1 + 1 + 64 < cLine; omega) (fun v hm => keepD (fun b o e => Heap.get?_push_of_some _ (hk b o e)) (e3 v hm).1) (fun v hm => (e3 v hm).2) e4 fun o e => ?_
    have e' : some o = some (seqObj "list" its.toArray 0) := e.symm.trans hoL
    cases e'
    intro c
    exact absurd (Value.type.inj c) (by decide)
  · obtain ⟨c, hcc⟩ := sortedHeap_at (vs := its) (out := out.toArray) hoL
    have keep : ∀ b u, h'.get? b = some u → (sortedHeap (h'.push (seqObj "list" its.toArray 0)) h'.objs.size its out.toArray).get? b = some u := by
      intro b u e
      have lt := Heap.lt_size e
      rw [sortedHeap_old (Nat.ne_of_lt lt) (by rw [size_push']; exact Nat.lt_succ_of_lt lt)]
      exact Heap.get?_push_of_some _ e
    have h3 : ∀ u ∈ out, ∃ a, u = Value.ref a := fun u hu => e2 u (h2.perm.mem_iff.mp hu)
    have hb : Stb (ltK k) (out.map backV) (nx.map fun p => V.ref p.2) := by
      rw [e1]
      exact Stb.map O backV h2
    refine wpAny_pure ⟨_, rfl, .ref h'.objs.size, upd H h'.objs.size (.lst (out.map backV)), I1.laid (t' := tk) keep (Nat.le_refl _) ⟨?_, out, c, vals_back h3, hcc⟩, rfl, q _ _ (srtd_map h1) hb (I1.hok.fresh (Nat.le_refl _))⟩
    rw [hb.len, List.length_map]
    exact R.few
end
end Gd

set_option Elab.async false
set_option linter.all false
set_option maxRecDepth 100000
set_option maxHeartbeats 4000000
/-! Ss: set(..) of a list of texts; sorted(..) of such a set. -/
namespace Gd
open PySem PySem.Spec PyProof.Rows L2
/-- where a set stands, and how its table is -/
structure Lies (w : World) (h : Heap) (a : Addr) (o : Obj) (es : Array (Int × Value)) (ep : Nat) (t : SetTable) : Prop where
  at_ : h.get? a = some o
  ex : o.ExactSet
  dat : o.data = .set es ep t
  few : es.size < scanBound
  fit : t.fits es.size = true
  ris : Ris t.place.toList
  led : w.params.followText "set-order" = true ∨ t.led = true
section
variable {P : Program} {w : World} {A : Around} {E : Value → Shared → Prop} {s : Shared} {a : Addr}
/-- what the set holds, up to its order, behind the adding of what was not in it -/
def Grown (w : World) (a : Addr) (s : Shared) (rows : List (Int × Value)) (R : Shared → Prop) : Prop :=
  ∀ (h2 : Heap) (o2 : Obj) (es2 : Array (Int × Value)) (ep2 : Nat) (t2 : SetTable), Heap.SameBut a s.heap h2 → Lies w h2 a o2 es2 ep2 t2 → es2.toList.Perm rows → R { s with heap := h2 }
theorem tail_any {say : Bool → Sem Unit} (quiet : ∀ (b : Bool) (s1 : Shared) (F : Unit → Shared → Prop), F () s1 → wpAny (model P w) A (say b) F E s1) {o : Obj} {es0 es : Array (Int × Value)} {ep : Nat} {t0 t : SetTable}
    (o_at : s.heap.get? a = some o) (o_ex : o.ExactSet) (o_dat : o.data = .set es0 ep t0) (z1 : es.size < scanBound) (z2 : t.fits es.size = true) (z3 : Ris t.place.toList) (z4 : w.params.followText "set-order" = true ∨ t.led = true) {dm : Bool} {R : Option Bool → Shared → Prop}
    (hR : Grown w a s es.toList (R (some true))) :
    wpAny (model P w) A (do
        storeSet a es t
        if (!dm && t.tooFull) = true then do
            say (relayAll t es (SetTable.grown es.size)).2.2
            storeSet a (relayAll t es (SetTable.grown es.size)).1 (relayAll t es (SetTable.grown es.size)).2.1
            pure (some true)
          else pure (some true)) R E s := by
  refine wpAny_bind (wpAny_storeSet_of o_at o_dat ?_ (fits_of_scanBound z1))
  have p1 := store_at (es' := es) (t' := t) o_at o_dat
  have q1 := Heap.SameBut.update s.heap a (Obj.putSet es t)
  split
  · have y1 := relayAll_perm t es (SetTable.grown es.size)
    have y2 := relayAll_fits t es (SetTable.grown es.size)
    have y3 := relayAll_ris t es (SetTable.grown es.size)
    have y4 := relayAll_led t es (SetTable.grown es.size)
    generalize relayAll t es (SetTable.grown es.size) = big at y1 y2 y3 y4 ⊢
    obtain ⟨es3, t3, gave⟩ := big
    dsimp only at y1 y2 y3 y4 ⊢
    have y5 : es3.size < scanBound := by
      have e : es3.size = es.size := by rw [← Array.length_toList, y1.length_eq, Array.length_toList]
      omega
    refine wpAny_bind (quiet _ _ _ ?_)
    refine wpAny_bind (wpAny_storeSet_of p1 rfl ?_ (fits_of_scanBound y5))
    have p2 := store_at (es' := es3) (t' := t3) p1 rfl
    refine wpAny_pure (hR _ _ es3 _ t3 (q1.trans (Heap.SameBut.update _ a _)) ⟨p2, o_ex, rfl, y5, y2, y3, ?_⟩ y1)
    rcases z4 with z4 | z4
    · exact .inl z4
    · exact .inr (y4.trans z4)
  · exact wpAny_pure (hR _ _ es _ t q1 ⟨p1, o_ex, rfl, z1, z2, z3, z4⟩ (List.Perm.refl _))
/-- adding a value of any kind that is known by its value -/
theorem add_any {κ : Type} [DecidableEq κ] (kn : KeyKind P w κ) {k : κ} {v : Value} (isK : kn.is k v = true) (scan : v.scannable = true) {o : Obj} {es : Array (Int × Value)} {ep : Nat} {t : SetTable} {Q : Bool → Shared → Prop}
    (L : Lies w s.heap a o es ep t) (el : ElemsOf kn es.toList) (room : es.size + 1 < scanBound) (old : (∃ e ∈ es.toList, kn.is k e.2 = true) → Q false s) (new : (∀ e ∈ es.toList, kn.is k e.2 = false) → Grown w a s ((kn.hash k, v) :: es.toList) (Q true)) :
    wpAny (model P w) A (setAddHashed a v (kn.hash k)) Q E s := by
  unfold setAddHashed setAddHashedIn
  refine wpAny_holding (wpAny_bind (wpAny_setState_of L.at_ L.dat L.fit ?_))
  dsimp only
  rw [byScan_of scan L.few el]
  simp only [↓reduceIte]
  unfold setAddByScan
  refine wpAny_bind (wpAny_bind (wpAny_rule (wpAny_bind (wpAny_setScan_of isK L.at_ L.dat L.fit el ?_))))
  cases f : List.findIdx? (fun e => kn.is k e.2) es.toList with
  | some j =>
    obtain ⟨lt, is, _⟩ := List.findIdx?_eq_some_iff_getElem.mp f
    exact wpAny_pure (wpAny_pure (old ⟨_, List.getElem_mem lt, is⟩))
  | none =>
    have no : ∀ e ∈ es.toList, kn.is k e.2 = false := fun e m => by simpa using List.findIdx?_eq_none_iff.mp f e m
    have grow := new no
    dsimp only
    have y1 := layNew_perm t es (kn.hash k) v
    have y2 := layNew_fits t es (kn.hash k) v
    have y3 := layNew_ris t es (kn.hash k) v L.ris
    have y4 := layNew_led t es (kn.hash k) v
    generalize layNew t es (kn.hash k) v = laid at y1 y2 y3 y4 ⊢
    obtain ⟨es1, t1, dm, gave⟩ := laid
    dsimp only at y1 y2 y3 y4 ⊢
    rw [Array.toList_push] at y1
    have pm : es1.toList.Perm ((kn.hash k, v) :: es.toList) := y1.trans (List.perm_append_singleton _ _)
    have z1 : es1.size < scanBound := by
      have e : es1.size = es.size + 1 := by rw [← Array.length_toList, pm.length_eq, List.length_cons, Array.length_toList]
      omega
    have z4 : w.params.followText "set-order" = true ∨ t1.led = true := by
      rcases L.led with z | z
      · exact .inl z
      · exact .inr (y4.trans z)
    have fin : Grown w a s es1.toList (Q true) := fun h2 o2 es2 ep2 t2 sb ll pp => grow h2 o2 es2 ep2 t2 sb ll (pp.trans pm)
    have hush : ∀ (b : Bool) {s1 : Shared} {F : Unit → Shared → Prop}, F () s1 → wpAny (model P w) A (match b with | true => rule "set.scan.the-table-gave-way" | false => pure ()) F E s1 := fun b s1 F q => by
      cases b
      · exact wpAny_pure q
      · exact wpAny_rule q
    refine wpAny_bind (hush _ ?_)
    split
    · refine wpAny_bind ?_
      rw [hashByValue_scannable 8 scan]
      refine wpAny_pure (tail_any ?_ L.at_ L.ex L.dat z1 ?_ ?_ ?_ ?_)
      · intro b s1 F q
        cases b
        · exact wpAny_pure q
        · exact wpAny_rule q
      · split
        · exact y2
        · exact SetTable.fits_plain_off y2
      · split <;> exact y3
      · split <;> exact z4
      · exact fun h2 o2 es2 ep2 t2 sb ll pp => wpAny_pure (fin h2 o2 es2 ep2 t2 sb ll pp)
    · refine wpAny_bind (wpAny_pure ?_)
      simp only [↓reduceIte]
      refine tail_any ?_ L.at_ L.ex L.dat z1 y2 y3 z4 ?_
      · intro b s1 F q
        cases b
        · exact wpAny_pure q
        · exact wpAny_rule q
      · exact fun h2 o2 es2 ep2 t2 sb ll pp => wpAny_pure (fin h2 o2 es2 ep2 t2 sb ll pp)
end
/-! ### texts -/
def xOf (e : Int × Value) : Str := match e.2 with
  | .str x _ => x
  | _ => Str.empty
def isTx (P : Program) (w : World) (e : Int × Value) : Prop := ∃ x tk, e.2 = .str x tk ∧ e.1 = (PySem.strKind P w).hash x
/-- the set at a has these texts, at most m -/
structure SetT (P : Program) (w : World) (h : Heap) (a : Addr) (xs : List Str) (m : Nat) : Prop where
  ex : ∃ (o : Obj) (es : Array (Int × Value)) (ep : Nat) (t : SetTable), Lies w h a o es ep t ∧ (∀ e ∈ es.toList, isTx P w e) ∧ (es.toList.map xOf).Nodup ∧ (∀ x, x ∈ es.toList.map xOf ↔ x ∈ xs) ∧ es.size ≤ m
theorem SetT.stay {P : Program} {w : World} {h h2 : Heap} {a : Addr} {xs : List Str} {m : Nat} (T : SetT P w h a xs m) (k : ∀ o, h.get? a = some o → h2.get? a = some o) : SetT P w h2 a xs m := by
  obtain ⟨o, es, ep, t, L, r⟩ := T.ex
  exact ⟨o, es, ep, t, ⟨k _ L.at_, L.ex, L.dat, L.few, L.fit, L.ris, L.led⟩, r⟩
def SetTO (P : Program) (w : World) (a : Addr) (xs : List Str) (m : Nat) : HO := .ext fun h => SetT P w h a xs m
theorem setTO_ok {P : Program} {w : World} {H : Hp} {h : Heap} {a : Addr} {xs : List Str} {m : Nat} (T : SetT P w h a xs m) : ObjOk P w H h a (SetTO P w a xs m) := by
  obtain ⟨o, es, ep, t, L, r⟩ := id T.ex
  exact ⟨T, ⟨o, L.at_⟩, fun h1 h2 p k => SetT.stay p k⟩
section
variable {P : Program} {w : World} {A : Around} {E : Value → Shared → Prop} {s : Shared} {a : Addr}
theorem tx_elems {l : List (Int × Value)} (g : ∀ e ∈ l, isTx P w e) : ElemsOf (PySem.strKind P w) l := fun e he => by
  obtain ⟨x, tk, h1, h2⟩ := g e he
  exact ⟨⟨x, by rw [h1]; exact strKind_is _ _ _ _, h2⟩, by rw [h1]; rfl⟩
theorem tx_is {e : Int × Value} (g : isTx P w e) (x : Str) : (PySem.strKind P w).is x e.2 = true ↔ xOf e = x := by
  obtain ⟨y, tk, h1, _⟩ := g
  constructor
  · intro h
    rw [h1] at h
    have z : x = y := (PySem.strKind P w).inj _ x y h (strKind_is _ _ _ _)
    unfold xOf
    rw [h1]
    exact z.symm
  · intro h
    unfold xOf at h
    rw [h1] at h
    have h : y = x := h
    subst h
    rw [h1]
    exact strKind_is _ _ _ _
theorem SetT.add {xs : List Str} {m : Nat} {x : Str} {tk : Tok} {Q : Bool → Shared → Prop} (T : SetT P w s.heap a xs m) (room : m + 1 < scanBound)
    (q : ∀ (b : Bool) (h2 : Heap), Heap.SameBut a s.heap h2 → SetT P w h2 a (xs ++ [x]) (m + 1) → Q b { s with heap := h2 }) : wpAny (model P w) A (setAddHashed a (.str x tk) ((PySem.strKind P w).hash x)) Q E s := by
  obtain ⟨o, es, ep, t, L, g, nd, mem, le⟩ := T.ex
  refine add_any (PySem.strKind P w) (strKind_is _ _ _ _) rfl L (tx_elems g) (by omega) (fun ⟨e, he, hx⟩ => ?_) fun no h2 o2 es2 ep2 t2 sb ll pp => ?_
  · refine q false s.heap (Heap.SameBut.refl a s.heap) ⟨o, es, ep, t, L, g, nd, fun y => ?_, by omega⟩
    rw [List.mem_append, List.mem_singleton, mem y]
    refine ⟨.inl, fun z => z.elim id fun z => ?_⟩
    rw [z, ← mem x]
    exact List.mem_map.mpr ⟨e, he, (tx_is (g e he) x).mp hx⟩
  · have fresh : x ∉ es.toList.map xOf := fun z => by
      obtain ⟨e, he, hx⟩ := List.mem_map.mp z
      have c := no e he
      rw [(tx_is (g e he) x).mpr hx] at c
      cases c
    have pk : (es2.toList.map xOf).Perm (x :: es.toList.map xOf) := pp.map xOf
    refine q true h2 sb ⟨o2, es2, ep2, t2, ll, fun e he => ?_, pk.nodup_iff.mpr (List.nodup_cons.mpr ⟨fresh, nd⟩), fun y => ?_, ?_⟩
    · rcases List.mem_cons.mp (pp.mem_iff.mp he) with z | z
      · rw [z]
        exact ⟨x, tk, rfl, rfl⟩
      · exact g e z
    · rw [pk.mem_iff, List.mem_cons, List.mem_append, List.mem_singleton, mem y]
      exact Or.comm
    · have e : es2.size = es.size + 1 := by rw [← Array.length_toList, pp.length_eq, List.length_cons, Array.length_toList]
      omega
/-- the walk that puts all of them in -/
theorem upd_strs {I : Addr} {fp wr : List Addr} {G : Array GenState → Array GenState → Prop} {n : Nat} {Pv : Nat → Value → Prop} {St : Nat → Shared → Prop} {R : Result → Shared → Prop} (W : WalksS P w A.in1 I fp wr G n Pv St) (out : a ∉ fp) {xs : List Str} (len : n = xs.length) (few : xs.length + 1 < scanBound)
    (vals : ∀ i v, Pv i v → ∃ x t, xs[i]? = some x ∧ v = .str x t) : ∀ (left i : Nat) (s : Shared), i + left = n → St i s → SetT P w s.heap a (xs.take i) i → (∀ s2, Moved (a :: wr) G s s2 → SetT P w s2.heap a xs n → R (.ok (.ret .none)) s2) →
      codeAny (model P w) A (.builtin "set.update.loop" ⟨[.ref a, .ref I], []⟩) R s
  | 0, i, s, e, st, T, hR => by
    have ei : i = n := by omega
    subst ei
    rw [List.take_of_length_le (by omega)] at T
    refine codeAny_builtin F.entry_set_update_loop ?_
    rw [Around.under_plainId F.plain_set_update_loop _]
    refine wpAny_bind (W.done s _ _ st fun s2 mv => wpAny_pure (hR s2 (mv.mono fun b hb => List.mem_cons_of_mem _ hb) (T.stay fun o ho => mv.heap a o (fun z => out (W.sub _ z)) ho)))
  | left + 1, i, s, e, st, T, hR => by
    refine codeAny_builtin F.entry_set_update_loop ?_
    rw [Around.under_plainId F.plain_set_update_loop _]
    refine wpAny_bind (W.item i s _ _ (by omega) st fun v s2 hP st2 mv => ?_)
    obtain ⟨x, tk, hx, rfl⟩ := vals i v hP
    have T2 : SetT P w s2.heap a (xs.take i) i := T.stay fun o ho => mv.heap a o (fun z => out (W.sub _ z)) ho
    refine wpAny_bind (wpAny_holding ?_)
    unfold setAdd
    refine wpAny_holding (wpAny_bind ((PySem.strKind P w).pyHash (k := x) (strKind_is _ _ _ _) ?_))
    refine SetT.add (s := { s2 with toks := s2.toks + 1 }) T2 (by omega) fun b h3 sb T3 => ?_
    have et : xs.take i ++ [x] = xs.take (i + 1) := by
      rw [List.take_add_one, hx]
      rfl
    rw [et] at T3
    refine wpAny_pure ⟨plainId_quiet F.plain_set_update_loop _, upd_strs W out len few vals left (i + 1) _ (by omega) (W.frame _ s2 _ _ st2 (Nat.le_succ _) fun b hb o ho => ?_) T3 fun s4 mv4 T4 => ?_⟩
    · exact (sb.2 b fun z => out (by rw [← z]; exact hb)).trans ho
    · refine hR s4 (Moved.trans W.gtrans ((mv.mono fun b hb => List.mem_cons_of_mem _ hb).then_heap (Nat.le_succ _) fun b o hb ho => ?_) mv4) T4
      exact (sb.2 b fun z => hb (by rw [z]; exact List.mem_cons_self)).trans ho
/-- the set of a list of texts: what stands behind set(l) -/
def SetMadeT (P : Program) (w : World) (s : Shared) (ns : List Str) (r : Value) (s2 : Shared) : Prop :=
  r = .none ∧ ∃ h' tk, s2 = { s with heap := h', toks := tk } ∧ SetT P w h' s.heap.objs.size ns ns.length ∧ ∀ b o, s.heap.get? b = some o → h'.get? b = some o
theorem set_of_texts {l : Addr} {its : Array Value} (ns : List Str) {Q : Value → Shared → Prop} (calm : A.handled = none) (hl : s.heap.IsList l its) (hi : StrsAre its.toList ns) (few : ns.length + 1 < scanBound)
    (h : ∀ (h' : Heap) (tk : Nat), SetT P w h' s.heap.objs.size ns ns.length → (∀ b o, s.heap.get? b = some o → h'.get? b = some o) → Q (.ref s.heap.objs.size) { s with heap := h', toks := tk }) :
    wpAny (model P w) A (call (.type "set") [.ref l]) Q E s := by
  have many : its.size = ns.length := by
    rw [← StrsAre.len_eq hi, Array.length_toList]
  have ⟨c, tl, hmro⟩ := F.called_set.mro
  have f1 := F.called_set.made
  have f2 := F.called_set.sub
  apply wpAny_call
  apply codeAny_of_tree
  show wpAny _ _ (callAny (.type "set") _) _ _ _
  refine wpAny_pure ⟨Code.quiet_builtin _ (by decide +kernel), codeAny_builtin F.entry_type_call ?_⟩
  rw [Around.under_plain (weight_type_call_type "set" [.ref l] []) rfl]
  have f3 := F.called_set.notType
  have f4 := F.called_set.canCreate
  have f5 := F.typeCall_set_1 (.ref l)
  repeat (any_goals (first | assumption | wp_step))
  refine codeAny_mono (code_set_led1 (.ref l) (E := E) (Q₁ := fun r t => r = .ref s.heap.objs.size ∧ t = { s with heap := s.heap.push (freshSet w) }) ⟨rfl, rfl⟩) ?_
  intro r s1 hr
  rcases r with e | fl
  · exact hr
  cases fl with
  | next => exact hr.elim
  | brk => exact hr.elim
  | cont => exact hr.elim
  | ret obj =>
    obtain ⟨rfl, rfl⟩ := hr
    have new : (s.heap.push (freshSet w)).get? s.heap.objs.size = some (freshSet w) := Heap.get?_push_size _ rfl
    have isS : Shared.TypeIs { s with heap := s.heap.push (freshSet w) } (.ref s.heap.objs.size) "set" := ⟨_, new, rfl⟩
    have f6 := F.called_set.init.lookup
    have f7 := F.called_set.init.bind (.ref s.heap.objs.size)
    repeat (any_goals (first | assumption | wp_step))
    refine codeAny_mono (codeAny_call_builtin (R := wants (SetMadeT P w s ns) E) F.called_set.init.plain F.entry_set_init (check_set_init_1 isS ?_)) ?_
    · have lLt : l < s.heap.objs.size := hl.elim fun o ho => Heap.lt_size ho.1
      have hl1 : (s.heap.push (freshSet w)).IsList l its := hl.push _
      obtain ⟨⟨oc, od, dat, osl⟩, ho, hc, nl, hd⟩ := id hl1
      simp only at hc hd
      subst hc hd
      have g1 := F.sub_list_set
      have g2 := F.sub_list_frozenset
      have g3 : (Value.type "list" == Value.type "dict") = false := by decide
      unfold Builtin.«set.__init__» noKeywords Builtin.Frozenset.updateFrom
      generalize hIt : pyIter = It
      wp_walk
      subst hIt
      refine wpAny_pyIter_list hl1 (wpAny_bind (wpAny_runValue ?_))
      have sz1 : (s.heap.push (freshSet w)).objs.size = s.heap.objs.size + 1 := Heap.size_push ..
      have calm3 : A.in1.in1.in1.handled = none := by simp [calm]
      have apart : l ≠ (s.heap.push (freshSet w)).objs.size := by
        rw [sz1]
        exact Nat.ne_of_lt (Nat.lt_succ_of_lt lLt)
      have outside : s.heap.objs.size ∉ [(s.heap.push (freshSet w)).objs.size, l] := by
        rw [sz1]
        simp only [List.mem_cons, List.not_mem_nil, or_false, not_or]
        exact ⟨Nat.ne_of_lt (Nat.lt_succ_self _), Nat.ne_of_gt lLt⟩
      have vals : ∀ (i : Nat) (v : Value), its[i]? = some v → ∃ x t, ns[i]? = some x ∧ v = .str x t := by
        intro i v hv
        have lt : i < ns.length := by
          rw [← many]
          exact (Array.getElem?_eq_some_iff.mp hv).1
        obtain ⟨t, e⟩ := SS.strs_at hi i v (by rw [Array.getElem?_toList]; exact hv)
        refine ⟨ns[i], t, List.getElem?_eq_getElem lt, ?_⟩
        rw [e, List.getD_eq_getElem?_getD, List.getElem?_eq_getElem lt]
        rfl
      refine upd_strs (Walks.list calm3 _ l apart its).toS outside many few vals its.size 0 _ (by omega) ⟨⟨_, Heap.get?_push_size _ rfl, rfl, rfl⟩, hl1.push _⟩ ?_ ?_
      · refine ⟨freshSet w, #[], 0, _, ⟨Heap.get?_push_of_some _ new, ⟨rfl, rfl, rfl⟩, rfl, by decide, by rfl, List.Pairwise.nil, ?_⟩, fun e he => by simp at he, by simp, fun x => by simp, Nat.le_refl _⟩
        show _ ∨ (!w.params.followText "set-order") = true
        cases w.params.followText "set-order"
        · exact .inr rfl
        · exact .inl rfl
      · intro s' mv hS'
        obtain ⟨h', gs, dr, tk, os⟩ := s'
        obtain rfl : gs = s.gens := mv.gens
        obtain rfl : dr = s.drawn := mv.drawn
        obtain rfl : os = s.os := mv.os
        refine wpAny_pure (wpAny_pure ?_)
        rw [many] at hS'
        refine ⟨rfl, h', tk, rfl, hS', fun b o z => ?_⟩
        have lt := Heap.lt_size z
        refine mv.heap b o ?_ (Heap.get?_push_of_some _ (Heap.get?_push_of_some _ z))
        rw [sz1]
        simp only [List.mem_cons, List.not_mem_nil, or_false, not_or]
        exact ⟨Nat.ne_of_lt lt, Nat.ne_of_lt (Nat.lt_succ_of_lt lt)⟩
    · intro r2 s2 hr2
      rcases r2 with e | fl
      · exact hr2
      cases fl with
      | next => exact hr2.elim
      | brk => exact hr2.elim
      | cont => exact hr2.elim
      | ret r =>
        obtain ⟨rfl, h', tk, rfl, hS', hk⟩ := hr2
        repeat (any_goals (first | assumption | wp_step))
        exact h _ _ hS' hk
end
/-- set(xs), xs a list of texts -/
def rSetS (K : PySem.W.Frag) (P : Program) (w : World) : List V → Hp → VK → Prop := fun vs H Q => ∃ (a : Addr) (xs : List Str), vs = [.ref a] ∧ SqL K H a (xs.map V.str) ∧ xs.length ≤ 1000 ∧ ∀ p, H p = none → Q (.ref p) (upd H p (SetTO P w p xs xs.length))
theorem strs_of_vals : ∀ {xs : List Str} {us : List Value}, Vals (xs.map V.str) us → StrsAre us xs
  | [], _, .nil => .nil
  | x :: xs, _, .cons r rs => by
    obtain ⟨t, rfl⟩ := r
    exact .cons x t (strs_of_vals rs)
theorem vals_of_strsAre : ∀ {us : List Value} {xs : List Str}, StrsAre us xs → Vals (xs.map V.str) us
  | _, _, .nil => .nil
  | _, _, .cons y t r => .cons ⟨t, rfl⟩ (vals_of_strsAre r)
theorem call_setS {X : Cx} (hc : X.calm = true) : CallR X (.type "set") (rSetS X.K X.prog X.w) := by
  intro pins s σ H vs us Q I r h
  obtain ⟨a, xs, rfl, hx, few, q⟩ := h
  obtain ⟨u, rfl, ru⟩ := vals1 r
  cases (show u = Value.ref a from ru)
  obtain ⟨its, rv, pt, _⟩ := I.list hx
  refine set_of_texts xs (I.ok.hd hc) pt.isList (by simpa using strs_of_vals rv) (by unfold scanBound; omega) fun h' tk T k => ?_
  exact ⟨.ref _, _, I.laid (t' := tk) k (Nat.le_refl _) (setTO_ok T), rfl, q _ (I.hok.fresh (Nat.le_refl _))⟩
/-- sorted(s), s a set of fewer than 64 texts -/
def rSortS (P : Program) (w : World) : List V → Hp → VK → Prop := fun vs H Q => ∃ (a : Addr) (xs : List Str) (m : Nat), vs = [V.ref a] ∧ H a = some (SetTO P w a xs m) ∧ m < 64 ∧
  ∀ (ys : List Str) (p : Addr), ys.Nodup → sortedS ys = true → (∀ x, x ∈ ys ↔ x ∈ xs) → ys.length ≤ m → H p = none → Q (.ref p) (upd H p (.lst (ys.map V.str)))
theorem strsAre_all : ∀ l : List Value, (∀ v ∈ l, ∃ x tk, v = Value.str x tk) → ∃ xs, StrsAre l xs ∧ xs = l.map fun v => xOf (0, v)
  | [], _ => ⟨[], .nil, rfl⟩
  | v :: l, h => by
    obtain ⟨x, tk, rfl⟩ := h v List.mem_cons_self
    obtain ⟨xs, h1, h2⟩ := strsAre_all l fun u hu => h u (List.mem_cons_of_mem _ hu)
    exact ⟨x :: xs, .cons x tk h1, by rw [List.map_cons, h2]; rfl⟩
theorem call_sortS {X : Cx} (hc : X.calm = true) : CallR X (.builtin "sorted") (rSortS X.prog X.w) := by
  intro pins s σ H vs us Q I r h
  obtain ⟨a, xs, m, rfl, ha, small, q⟩ := h
  obtain ⟨u, rfl, ru⟩ := vals1 r
  cases (show u = Value.ref a from ru)
  have T : SetT X.prog X.w s.heap a xs m := (show ObjOk X.prog X.w H s.heap a (SetTO X.prog X.w a xs m) from I.hok a _ ha).1
  obtain ⟨o, es, ep, t, L, g, nd, mem, le⟩ := T.ex
  refine Calls.call_function_entry kind_sorted plain_sorted entry_sorted (args_sorted1 _) ?_
  unfold Builtin.«sorted»
  refine wpAny_bind (m := checkCount "sorted" 1 1 _) (wpAny_pure ?_)
  refine wpAny_bind (collect_set (A := X.A.in1) (I.ok.hd hc) ⟨o, L.at_, L.ex.1, L.dat⟩ L.fit L.few L.ris L.led fun s1 got k1 z1 g1 o1 pm => ?_)
  obtain ⟨zs, hz, ez⟩ := strsAre_all got fun v hv => by
    obtain ⟨e, he, rfl⟩ := List.mem_map.mp (pm.mem_iff.mp hv)
    obtain ⟨x, tk, h1, _⟩ := g e he
    exact ⟨x, tk, h1⟩
  have pz : zs.Perm (es.toList.map xOf) := by
    have z := pm.map fun v => xOf (0, v)
    rw [List.map_map] at z
    rw [ez]
    exact z
  have lz : got.length ≤ m := by
    rw [pm.length_eq, List.length_map, Array.length_toList]
    exact le
  have hL : (s1.heap.push (seqObj "list" got.toArray 0)).get? s1.heap.objs.size = some (seqObj "list" got.toArray 0) := Heap.get?_push_size _ rfl
  refine wpAny_bind (wpAny_newList ?_ (by rw [sizeLine_eq]; omega))
  refine wpAny_bind (wpAny_holding (wpAny_call_entry slot_list_sort ⟨_, hL, rfl⟩ entry_list_sort (list_sort_treeK strKind_oneLt (s := { s1 with heap := s1.heap.push (seqObj "list" got.toArray 0) }) hL hz.keysOf (fun v1 v2 rest e => keyKind_strs (by rw [← e]; exact hz)) (by omega) fun st' hp hs => ⟨_, rfl, ?_⟩) (args_list_sort _)))
  obtain ⟨ys, y1, y2, y3⟩ := sorted_out_str hz hp hs
  obtain ⟨c, hcc⟩ := sortedHeap_at (vs := got) (out := (arrOf st').map (·.2)) hL
  have py := y2.trans pz
  have ly : ys.length ≤ m := by
    rw [py.length_eq, List.length_map, Array.length_toList]
    exact le
  have hn : H s1.heap.objs.size = none := I.hok.fresh z1
  have keep : ∀ b u, s.heap.get? b = some u → (sortedHeap (s1.heap.push (seqObj "list" got.toArray 0)) s1.heap.objs.size got ((arrOf st').map (·.2))).get? b = some u := fun b u e => by
    have e2 := k1 b u e
    have lt := Heap.lt_size e2
    rw [sortedHeap_old (Nat.ne_of_lt lt) (by rw [size_push']; exact Nat.lt_succ_of_lt lt)]
    exact Heap.get?_push_of_some _ e2
  have J : Inv X pins σ (upd H s1.heap.objs.size (.lst (ys.map V.str))) { s with heap := sortedHeap (s1.heap.push (seqObj "list" got.toArray 0)) s1.heap.objs.size got ((arrOf st').map (·.2)), drawn := s1.drawn, toks := s1.toks } :=
    I.call (ch := []) (Un.laid keep z1 hn) (I.hok.laid keep z1 ⟨by rw [List.length_map, sizeLine_eq]; omega, ((arrOf st').map (·.2)).toList, c, vals_of_strsAre y1, by rw [Array.toArray_toList]; exact hcc⟩) I.bare (fun _ z => nomatch z)
  refine wpAny_pure ⟨_, rfl, .ref s1.heap.objs.size, _, ?_, rfl, q ys _ (py.nodup_iff.mpr nd) y3 (fun x => by rw [py.mem_iff, mem x]) ly hn⟩
  have e : ({ s1 with heap := sortedHeap (s1.heap.push (seqObj "list" got.toArray 0)) s1.heap.objs.size got ((arrOf st').map (·.2)) } : Shared) = { s with heap := sortedHeap (s1.heap.push (seqObj "list" got.toArray 0)) s1.heap.objs.size got ((arrOf st').map (·.2)), drawn := s1.drawn, toks := s1.toks } := by
    cases s1
    cases s
    cases g1
    cases o1
    rfl
  exact e ▸ J
end Gd

set_option Elab.async false
set_option linter.all false
set_option maxRecDepth 100000
set_option maxHeartbeats 1000000
/-! Ya: applied ties: pairs of a name and a tuple of ints; their order. -/
namespace K7
open PySem PySem.Spec PyProof.Rows L2 Gd
abbrev Pr := Str × List Int
def intsD (r : List Int) : PyData := .tuple (r.map PyData.int)
def prD (q : Pr) : PyData := .tuple [.str q.1, intsD q.2]
def prsD (qs : List Pr) : PyData := .tuple (qs.map prD)
def asPr (q : Pr) : Str × PySem.W.Tup Int := (q.1, ⟨q.2⟩)
theorem prD_eq (q : Pr) : prD q = PySem.W.Datum.toD (asPr q) := rfl
theorem prsD_eq (qs : List Pr) : prsD qs = PySem.W.Datum.toD (⟨qs.map asPr⟩ : PySem.W.Tup (Str × PySem.W.Tup Int)) := by
  show PyData.tuple (qs.map prD) = .tuple ((qs.map asPr).map PySem.W.Datum.toD)
  rw [List.map_map]
  rfl
theorem asPr_inj {p q : Pr} (h : asPr p = asPr q) : p = q := by
  obtain ⟨a, x⟩ := p
  obtain ⟨b, y⟩ := q
  have h1 : a = b := congrArg Prod.fst h
  have h2 : x = y := congrArg (fun z => z.2.items) h
  rw [h1, h2]
theorem plain_pr (q : Pr) : (prD q).plain = true := by rw [prD_eq]; exact PySem.W.Datum.plain _
theorem plain_prs (qs : List Pr) : (prsD qs).plain = true := by rw [prsD_eq]; exact PySem.W.Datum.plain _
theorem depth_pr (q : Pr) : (prD q).depth ≤ 8 := by rw [prD_eq]; exact Nat.le_trans (PySem.W.Datum.depth_le _) (by decide)
theorem depth_prs (qs : List Pr) : (prsD qs).depth ≤ 60 := by rw [prsD_eq]; exact Nat.le_trans (PySem.W.Datum.depth_le _) (by decide)
theorem eqv_pr (p q : Pr) : PyData.eqv (prD p) (prD q) = decide (p = q) := by
  rw [prD_eq, prD_eq, PySem.W.Datum.eqv]
  exact decide_eq_decide.mpr ⟨asPr_inj, fun h => by rw [h]⟩
theorem map_inj {α β : Type} {f : α → β} (h : ∀ a b, f a = f b → a = b) : ∀ {xs ys : List α}, xs.map f = ys.map f → xs = ys
  | [], [], _ => rfl
  | [], _ :: _, e => by cases e
  | _ :: _, [], e => by cases e
  | x :: xs, y :: ys, e => by
    rw [List.map_cons, List.map_cons] at e
    have z := List.cons.inj e
    rw [h _ _ z.1, map_inj h z.2]
theorem eqv_prs (ps qs : List Pr) : PyData.eqv (prsD ps) (prsD qs) = decide (ps = qs) := by
  rw [prsD_eq, prsD_eq, PySem.W.Datum.eqv]
  refine decide_eq_decide.mpr ⟨fun h => ?_, fun h => by rw [h]⟩
  have z : ps.map asPr = qs.map asPr := congrArg PySem.W.Tup.items h
  exact map_inj (fun a b => asPr_inj) z
theorem on_ints : ∀ r : List Int, tOnlys (r.map PyData.int) = true
  | [] => by simp [tOnlys]
  | x :: r => by simp [tOnlys, tOnly, on_ints r]
theorem on_pr (q : Pr) : tOnly (prD q) = true := by
  simp [prD, intsD, tOnly, tOnlys, on_ints]
theorem ok_ints : ∀ r t : List Int, okDs (r.map PyData.int) (t.map PyData.int) = true
  | [], _ => by simp [okDs]
  | _ :: _, [] => by simp [okDs]
  | x :: r, y :: t => by simp [okDs, okD, ok_ints r t]
theorem ok_pr (p q : Pr) : okD (prD p) (prD q) = true := by
  simp [prD, intsD, okD, okDs, ok_ints]
theorem lt_ints : ∀ r t : List Int, ltDs (r.map PyData.int) (t.map PyData.int) = lexI r t
  | [], [] => by simp [ltDs, lexI]
  | [], _ :: _ => by simp [ltDs, lexI]
  | _ :: _, [] => by simp [ltDs, lexI]
  | x :: r, y :: t => by
    rw [List.map_cons, List.map_cons, ltDs, lt_ints r t]
    show _ = if x = y then lexI r t else decide (x < y)
    by_cases e : x = y
    · subst e
      rw [if_pos rfl, if_pos (by simp [PyData.eqv])]
    · rw [if_neg e, if_neg (by simpa [PyData.eqv] using e), ltD]
def ltQ (p q : Pr) : Bool := if p.1 = q.1 then lexI p.2 q.2 else decide (p.1.cps.toList < q.1.cps.toList)
theorem eqv_ints (r t : List Int) : PyData.eqv (intsD r) (intsD t) = decide (r = t) := by
  have e : ∀ r : List Int, intsD r = PySem.W.Datum.toD (⟨r⟩ : PySem.W.Tup Int) := fun _ => rfl
  rw [e, e, PySem.W.Datum.eqv]
  exact decide_eq_decide.mpr ⟨fun h => congrArg PySem.W.Tup.items h, fun h => by rw [h]⟩
theorem lexI_irr : ∀ r : List Int, lexI r r = false
  | [] => rfl
  | x :: r => by rw [lexI_eq]; exact lexI_irr r
theorem lt_pr (p q : Pr) : ltD (prD p) (prD q) = ltQ p q := by
  rw [prD, prD, ltD, ltDs]
  unfold ltQ
  by_cases e : p.1 = q.1
  · rw [if_pos e, if_pos (by rw [e]; simp [PyData.eqv]), ltDs]
    by_cases e2 : p.2 = q.2
    · rw [if_pos (by rw [eqv_ints, e2]; exact decide_eq_true rfl), e2, lexI_irr]
      simp [ltDs]
    · rw [if_neg (by rw [eqv_ints]; simpa using e2), intsD, intsD, ltD, lt_ints]
  · rw [if_neg e, if_neg (by simpa [PyData.eqv] using e), ltD]
theorem cps_eq {x y : Str} (h : x.cps.toList = y.cps.toList) : x = y := by
  obtain ⟨⟨a⟩⟩ := x
  obtain ⟨⟨b⟩⟩ := y
  have h : a = b := h
  rw [h]
theorem ltQ_asym (x y : Pr) (h : ltQ x y = true) : ltQ y x = false := by
  unfold ltQ at h ⊢
  by_cases e : x.1 = y.1
  · rw [if_pos e] at h
    rw [if_pos e.symm]
    exact lexI_asym _ _ h
  · rw [if_neg e, decide_eq_true_eq] at h
    rw [if_neg (Ne.symm e), decide_eq_false_iff_not]
    exact List.lt_asymm h
theorem ltQ_tr (x y z : Pr) (h1 : ltQ y x = false) (h2 : ltQ z y = false) : ltQ z x = false := by
  unfold ltQ at h1 h2 ⊢
  by_cases e1 : y.1 = x.1
  · rw [if_pos e1] at h1
    by_cases e2 : z.1 = y.1
    · rw [if_pos e2] at h2
      rw [if_pos (e2.trans e1)]
      exact lexI_tr _ _ _ h1 h2
    · rw [if_neg e2] at h2
      rw [if_neg (by rw [← e1]; exact e2), ← e1]
      exact h2
  · rw [if_neg e1, decide_eq_false_iff_not] at h1
    have l1 : x.1.cps.toList ≤ y.1.cps.toList := List.not_lt.mp h1
    by_cases e2 : z.1 = y.1
    · rw [if_neg (by rw [e2]; exact e1), decide_eq_false_iff_not, e2]
      exact h1
    · rw [if_neg e2, decide_eq_false_iff_not] at h2
      have l2 : y.1.cps.toList ≤ z.1.cps.toList := List.not_lt.mp h2
      have l3 := List.le_trans l1 l2
      have ne : z.1 ≠ x.1 := fun e => by
        rw [e] at l2
        exact e1 (cps_eq (List.le_antisymm l2 l1))
      rw [if_neg ne, decide_eq_false_iff_not]
      exact List.not_lt.mpr l3
theorem ltQ_tot (x y : Pr) (h1 : ltQ x y = false) (h2 : ltQ y x = false) : x = y := by
  unfold ltQ at h1 h2
  by_cases e : x.1 = y.1
  · rw [if_pos e] at h1
    rw [if_pos e.symm] at h2
    exact Prod.ext e (lexI_tot _ _ h1 h2)
  · rw [if_neg e, decide_eq_false_iff_not] at h1
    rw [if_neg (Ne.symm e), decide_eq_false_iff_not] at h2
    exact absurd (cps_eq (List.le_antisymm (List.not_lt.mp h2) (List.not_lt.mp h1))) e
theorem ltQ_irr (x : Pr) : ltQ x x = false := by
  unfold ltQ
  rw [if_pos rfl]
  exact lexI_irr _
theorem ltQ_trans {x y z : Pr} (h1 : ltQ x y = true) (h2 : ltQ y z = true) : ltQ x z = true := by
  cases e : ltQ x z with
  | true => rfl
  | false =>
    have a := ltQ_tr z x y e (ltQ_asym _ _ h1)
    rw [h2] at a
    cases a
end K7

set_option Elab.async false
set_option linter.all false
set_option maxRecDepth 100000
set_option maxHeartbeats 1000000
/-! Yb: applied ties in the heap; is_size, is_unknowns, is_applied. -/
namespace K7
open PySem PySem.Spec PyProof.Rows L2 Gd
/-- v is this pair -/
def PrAt (K : PySem.W.Frag) (H : Hp) (v : V) (q : Pr) : Prop := ∃ a b, v = .ref a ∧ SqT K H a [.str q.1, .ref b] ∧ SqT K H b (q.2.map V.int)
inductive PrsAt (K : PySem.W.Frag) (H : Hp) : List V → List Pr → Prop
  | nil : PrsAt K H [] []
  | cons {v : V} {vs : List V} {q : Pr} {qs : List Pr} (h : PrAt K H v q) (t : PrsAt K H vs qs) : PrsAt K H (v :: vs) (q :: qs)
section
variable {K : PySem.W.Frag} {H G : Hp}
theorem PrAt.mv (s : KeepT H G) {v : V} {q : Pr} (h : PrAt K H v q) : PrAt K G v q := by
  obtain ⟨a, b, e, h1, h2⟩ := h
  exact ⟨a, b, e, s.sqT h1, s.sqT h2⟩
theorem PrsAt.mv (s : KeepT H G) : ∀ {vs : List V} {qs : List Pr}, PrsAt K H vs qs → PrsAt K G vs qs
  | _, _, .nil => .nil
  | _, _, .cons h t => .cons (h.mv s) (PrsAt.mv s t)
theorem PrsAt.len : ∀ {vs : List V} {qs : List Pr}, PrsAt K H vs qs → vs.length = qs.length
  | _, _, .nil => rfl
  | _, _, .cons _ t => congrArg (· + 1) (PrsAt.len t)
theorem PrsAt.get : ∀ {vs : List V} {qs : List Pr} {i : Nat} {v : V}, PrsAt K H vs qs → vs[i]? = some v → ∃ q, qs[i]? = some q ∧ PrAt K H v q
  | _, _, _, _, .nil, e => by simp at e
  | _, _, 0, _, .cons h _, e => by
    cases e
    exact ⟨_, rfl, h⟩
  | _, _, i + 1, v, .cons _ t, e => PrsAt.get (i := i) t (by simpa using e)
theorem PrsAt.at {vs : List V} {qs : List Pr} {i : Nat} {q : Pr} (h : PrsAt K H vs qs) (e : qs[i]? = some q) : ∃ v, vs[i]? = some v ∧ PrAt K H v q := by
  have lt : i < vs.length := by
    rw [h.len]
    exact (List.getElem?_eq_some_iff.mp e).1
  obtain ⟨q', e', hq⟩ := h.get (List.getElem?_eq_getElem lt)
  rw [e] at e'
  cases e'
  exact ⟨_, List.getElem?_eq_getElem lt, hq⟩
theorem PrsAt.app : ∀ {vs ws : List V} {qs rs : List Pr}, PrsAt K H vs qs → PrsAt K H ws rs → PrsAt K H (vs ++ ws) (qs ++ rs)
  | _, _, _, _, .nil, g => g
  | _, _, _, _, .cons h t, g => .cons h (PrsAt.app t g)
theorem PrsAt.take : ∀ {vs : List V} {qs : List Pr} (n : Nat), PrsAt K H vs qs → PrsAt K H (vs.take n) (qs.take n)
  | _, _, 0, _ => .nil
  | _, _, n + 1, .nil => .nil
  | _, _, n + 1, .cons h t => .cons h (PrsAt.take n t)
theorem PrsAt.drop : ∀ {vs : List V} {qs : List Pr} (n : Nat), PrsAt K H vs qs → PrsAt K H (vs.drop n) (qs.drop n)
  | _, _, 0, h => h
  | _, _, n + 1, .nil => .nil
  | _, _, n + 1, .cons h t => PrsAt.drop n t
theorem PrAt.td {v : V} {q : Pr} (h : PrAt K H v q) : Td K H v (prD q) := by
  obtain ⟨a, b, rfl, h1, h2⟩ := h
  refine .tup h1 rfl fun i x d e1 e2 => ?_
  match i with
  | 0 => cases e1; cases e2; exact .str _
  | 1 => cases e1; cases e2; exact td_ints h2
  | i + 2 => simp at e1
theorem PrsAt.td {a : Addr} {vs : List V} {qs : List Pr} (h : PrsAt K H vs qs) (ha : SqT K H a vs) : Td K H (.ref a) (prsD qs) := by
  refine .tup ha (by rw [List.length_map]; exact h.len) fun i x d e1 e2 => ?_
  obtain ⟨q, hq, ht⟩ := h.get e1
  rw [List.getElem?_map, hq] at e2
  cases e2
  exact ht.td
def prJ (q : Pr) : Jv := .tup [.str q.1, .tup (q.2.map Jv.int)]
theorem PrAt.js {v : V} {q : Pr} (h : PrAt K H v q) (l1 : q.1.length ≤ 1000) (l2 : q.2.length ≤ 1000) : Js K H v (prJ q) := by
  obtain ⟨a, b, rfl, h1, h2⟩ := h
  exact .tup h1 (by show 2 ≤ 1000; decide) (.cons (.str _ l1) (.cons (.tup h2 (by rw [List.length_map]; exact l2) (js_ints _)) .nil))
end
/-- what is_unknowns says -/
def unkJ (n : Int) (j : Jv) : Bool := j.is "tuple" && (decide ((1 : Int) ≤ ((itemsJ j).length : Int)) && decide (((itemsJ j).length : Int) ≤ 3) && (itemsJ j).all (belowJ n))
def fstJ (j : Jv) : Jv := (itemsJ j).getD 0 .non
def sndJ (j : Jv) : Jv := (itemsJ j).getD 1 .non
def appJ (n : Int) (j : Jv) : Bool := j.is "tuple" && (decide (((itemsJ j).length : Int) = 2) && (nameJ (fstJ j) && unkJ n (sndJ j)))
section
variable {P : Program} {w : World} {K : PySem.W.Frag} {mg : Str → Option Value} {base : Heap}
def spSize (K : PySem.W.Frag) : Sp := fun vs H Q _ => ∃ n : Nat, vs = [.int n] ∧ n ≤ 60 ∧ Q (.bl true) H
theorem ok_is_size {f : Addr} {fd : FuncData} (F : Fun K "is_size" "is_size" s_is_size f fd) {t1 : Tok} (g_MAX_UNKNOWNS : mg "MAX_UNKNOWNS" = some (.int 60 t1)) (C : Has P w K mg base 1 "is_integer" ["value"] (spInt K)) : FnOk P w K mg base CX0 2 f fd ["value"] (spSize K) := by
  obtain ⟨f1, fd1, G_is_integer, g_is_integer, k_is_integer, b_is_integer⟩ := C.ex
  refine F.ok sc_is_size (fun vs H Q E h => ?_) (fun cdv A outer s H vs Q E hr h => ?_)
  · obtain ⟨n, rfl, _⟩ := h
    rfl
  obtain ⟨n, rfl, few, q⟩ := h
  refine ⟨_, (pss_one (ps_ret (pe_and (pe_call G_is_integer (hr.mono (by decide)) (by rfl) g_is_integer k_is_integer b_is_integer .nil pass0 (pa_cons (pv 0) pa_nil)) (pe_one (pe_chain op_le op_le pe_int (pv 0) (pe_glob (v := .int 60) rfl g_MAX_UNKNOWNS ⟨_, rfl⟩)))))), ?_⟩
  have hs : shortJ (.int (n : Int)) = true := by
    show (decide (-TL < (n : Int)) && decide ((n : Int) < TL)) = true
    rw [decide_eq_true (by unfold TL; omega), decide_eq_true (by unfold TL; omega)]
    rfl
  refine ⟨.int n, rfl, .int n, .int n, rfl, .int _, _, rfl, ?_⟩
  rw [hs]
  refine iteT ⟨.int n, rfl, 0, n, rfl, rfl, _, rfl, ?_⟩
  rw [decide_eq_true (show (0 : Int) ≤ n by omega)]
  refine iteT ⟨_, _, rfl, rfl, ?_⟩
  show Q (.bl (decide ((n : Int) ≤ 60))) H
  rw [decide_eq_true (show (n : Int) ≤ 60 by omega)]
  exact q
def spUnk (K : PySem.W.Frag) : Sp := fun vs H Q _ => ∃ v j n, vs = [.int n, v] ∧ Js K H v j ∧ ∀ G, Same H G → Q (.bl (unkJ n j)) G
theorem ok_is_unknowns {f : Addr} {fd : FuncData} (F : Fun K "is_unknowns" "is_unknowns" s_is_unknowns f fd) (B : Blt mg) (Cc : Cst mg) (C : Has P w K mg base 3 "is_below" ["value", "limit"] (spBelow K)) : FnOk P w K mg base CX0 4 f fd ["size", "value"] (spUnk K) := by
  obtain ⟨t1, g_MAX_PLACES⟩ := Cc.places
  obtain ⟨f1, fd1, G_is_below, g_is_below, k_is_below, b_is_below⟩ := C.ex
  refine F.ok sc_is_unknowns (fun vs H Q E h => ?_) (fun cdv A outer s H vs Q E hr h => ?_)
  · obtain ⟨v, j, n, rfl, _⟩ := h
    rfl
  obtain ⟨v, j, n, rfl, hk, q⟩ := h
  refine ⟨_, (pss_one (ps_ret (pe_and (pe_callB call_isi (by rfl) B.isinstance_ (by decide +kernel) (pa_cons (pv 1) (pa_cons (pe_bltn (v := .ty "tuple") rfl B.tuple_ boot_tuple rfl) pa_nil))) (pe_and (pe_chain op_le op_le pe_int (pe_callB call_len_seq (by rfl) B.len_ (by decide +kernel) (pa_cons (pv 1) pa_nil)) (pe_glob (v := .int 3) rfl g_MAX_PLACES ⟨_, rfl⟩)) (pe_one (pe_callB (cr_all rfl) (by rfl) B.all_ (by decide +kernel) (pa_cons (pe_lc (own := [("part", 2)]) (g := gName 2) (tt := tYes) rfl sc_is_unknowns.nd (pi_tup (pv 1)) (blkOk_by (own := [("part", 2)]) (N := nm_is_unknowns) (sc := defScope s_is_unknowns) (by decide +kernel)) (fun _ _ _ _ _ => (pg_name (i := 2) sc_is_unknowns.nd rfl (.inl rfl))) (fun _ _ _ _ _ => pts_nil) (fun _ _ _ _ _ => (pe_call G_is_below (hr.mono (by decide)) (by rfl) g_is_below k_is_below b_is_below .nil pass0 (pa_cons (pv 2) (pa_cons (pv 0) pa_nil))))) pa_nil))))))), ?_⟩
  refine ⟨v, rfl, hk.isi (.inr (.inr (.inr (.inl rfl)))) ⟨_, rfl, ?_⟩⟩
  have e : unkJ n j = (j.is "tuple" && (decide ((1 : Int) ≤ ((itemsJ j).length : Int)) && decide (((itemsJ j).length : Int) ≤ 3) && (itemsJ j).all (belowJ n))) := rfl
  rw [e] at q
  cases hk with
  | @tup a xs js h few r =>
    rw [is_tup_tuple, Bool.true_and] at q
    rw [is_tup_tuple]
    have len : ((itemsJ (.tup js)).length : Int) = (xs.length : Int) := congrArg Int.ofNat r.len.symm
    rw [len] at q
    refine iteT ⟨.ref a, rfl, a, xs, rfl, .inr h, 1, (xs.length : Int), rfl, rfl, _, rfl, ?_⟩
    have fin : ∀ b : Bool, (decide ((1 : Int) ≤ (xs.length : Int)) && decide ((xs.length : Int) ≤ 3)) = b → (∀ G, Same H G → Q (.bl (b && (itemsJ (.tup js)).all (belowJ n))) G) := fun b e => by rw [← e]; exact q
    cases h1 : decide ((1 : Int) ≤ (xs.length : Int)) with
    | false =>
      have q := fin false (by rw [h1]; rfl)
      rw [Bool.false_and] at q
      exact iteF ⟨_, rfl, iteF (q H (Same.refl H))⟩
    | true =>
      refine iteT ⟨_, _, rfl, rfl, _, rfl, ?_⟩
      cases h2 : decide ((xs.length : Int) ≤ 3) with
      | false =>
        have q := fin false (by rw [h1, h2]; rfl)
        rw [Bool.false_and] at q
        exact iteF (q H (Same.refl H))
      | true =>
        have q := fin true (by rw [h1, h2]; rfl)
        rw [Bool.true_and] at q
        refine iteT ⟨.ref a, rfl, a, rfl, ⟨xs, h⟩, fun D nD => ?_⟩
        refine lc_tupG (xs := xs) (Same H) (fun i acc => acc = ((js.map (belowJ n)).take i).map V.bl) (fun G z => z.tupS h) (Same.newG nD) rfl (fun i v G hi nx hv => ?_) (fun G acc sm eD ea => ?_)
        · obtain ⟨acc, sm, eD, ea⟩ := nx
          obtain ⟨j', hj, sj⟩ := r.get hv
          refine ⟨rfl, tyes ⟨_, rfl, _, rfl, v, j', n, rfl, sj.same sm, nx_put (fun G o z => z.upG nD) sm eD ?_ ?_⟩⟩
          · rw [ea, List.length_map, List.length_take, List.length_map]
            have := r.len
            omega
          · rw [ea, List.take_add_one, List.getElem?_map, hj, List.map_append]
            rfl
        · refine ⟨D, js.map (belowJ n), rfl, .inl (.inl ?_), ?_⟩
          · rw [eD, ea, List.take_of_length_le (by rw [List.length_map]; exact Nat.le_of_eq r.len.symm)]
          · have z : (js.map (belowJ n)).all id = (itemsJ (.tup js)).all (belowJ n) := by rw [List.all_map]; rfl
            rw [z]
            exact q G sm
  | non => rw [is_non_tuple] at q ⊢; exact iteF (q H (Same.refl H))
  | bl b => rw [is_bl_tuple] at q ⊢; exact iteF (q H (Same.refl H))
  | int i => rw [is_int_tuple] at q ⊢; exact iteF (q H (Same.refl H))
  | str x few => rw [is_str_tuple] at q ⊢; exact iteF (q H (Same.refl H))
  | lst h => rw [is_lst_tuple] at q ⊢; exact iteF (q H (Same.refl H))
  | dic h => rw [is_dic_tuple] at q ⊢; exact iteF (q H (Same.refl H))
  | obj h c => rw [is_obj_tuple] at q ⊢; exact iteF (q H (Same.refl H))
def spApp (K : PySem.W.Frag) : Sp := fun vs H Q _ => ∃ v j n, vs = [.int n, v] ∧ Js K H v j ∧ ∀ G, Same H G → Q (.bl (appJ n j)) G
theorem ok_is_applied {f : Addr} {fd : FuncData} (F : Fun K "is_applied" "is_applied" s_is_applied f fd) (B : Blt mg) (C : Has P w K mg base 1 "is_name" ["value"] (spName K)) (C2 : Has P w K mg base 4 "is_unknowns" ["size", "value"] (spUnk K)) : FnOk P w K mg base CX0 5 f fd ["size", "value"] (spApp K) := by
  obtain ⟨f1, fd1, G_is_name, g_is_name, k_is_name, b_is_name⟩ := C.ex
  obtain ⟨f2, fd2, G_is_unknowns, g_is_unknowns, k_is_unknowns, b_is_unknowns⟩ := C2.ex
  refine F.ok sc_is_applied (fun vs H Q E h => ?_) (fun cdv A outer s H vs Q E hr h => ?_)
  · obtain ⟨v, j, n, rfl, _⟩ := h
    rfl
  obtain ⟨v, j, n, rfl, hk, q⟩ := h
  refine ⟨_, (pss_one (ps_ret (pe_and (pe_callB call_isi (by rfl) B.isinstance_ (by decide +kernel) (pa_cons (pv 1) (pa_cons (pe_bltn (v := .ty "tuple") rfl B.tuple_ boot_tuple rfl) pa_nil))) (pe_and (pe_cmpR op_eq (pe_callB call_len_seq (by rfl) B.len_ (by decide +kernel) (pa_cons (pv 1) pa_nil)) pe_int (nomark _)) (pe_and (pe_call G_is_name (hr.mono (by decide)) (by rfl) g_is_name k_is_name b_is_name .nil pass0 (pa_cons (pe_ix ix_tup (pv 1) pe_int (fun _ _ => rfl)) pa_nil)) (pe_one (pe_call G_is_unknowns (hr.mono (by decide)) (by rfl) g_is_unknowns k_is_unknowns b_is_unknowns .nil pass0 (pa_cons (pv 0) (pa_cons (pe_ix ix_tup (pv 1) pe_int (fun _ _ => rfl)) pa_nil))))))))), ?_⟩
  refine ⟨v, rfl, hk.isi (.inr (.inr (.inr (.inl rfl)))) ⟨_, rfl, ?_⟩⟩
  have e : appJ n j = (j.is "tuple" && (decide (((itemsJ j).length : Int) = 2) && (nameJ (fstJ j) && unkJ n (sndJ j)))) := rfl
  rw [e] at q
  cases hk with
  | @tup a xs js h few r =>
    rw [is_tup_tuple, Bool.true_and] at q
    rw [is_tup_tuple]
    have len : ((itemsJ (.tup js)).length : Int) = (xs.length : Int) := congrArg Int.ofNat r.len.symm
    rw [len] at q
    refine iteT ⟨.ref a, rfl, a, xs, rfl, .inr h, rfl, _, rfl, ?_⟩
    rw [dec_v]
    cases h1 : decide ((xs.length : Int) = 2) with
    | false =>
      rw [h1, Bool.false_and] at q
      exact iteF (q H (Same.refl H))
    | true =>
      rw [h1, Bool.true_and] at q
      have l2 : xs.length = 2 := by have := of_decide_eq_true h1; omega
      obtain ⟨x, y, jx, jy, ex, ej, rx, ry⟩ := JsAll.two' r l2
      subst ex ej
      have q : ∀ G, Same H G → Q (.bl (nameJ jx && unkJ n jy)) G := q
      refine iteT ⟨.ref a, rfl, a, _, _, x, rfl, rfl, h, atI_nat (j := 0) rfl, x, jx, rfl, rx, fun G1 s1 => ⟨_, rfl, ?_⟩⟩
      cases h2 : nameJ jx with
      | false =>
        rw [h2, Bool.false_and] at q
        exact iteF (q G1 s1)
      | true =>
        rw [h2, Bool.true_and] at q
        refine iteT ⟨.int n, rfl, .ref a, rfl, a, _, _, y, rfl, rfl, s1.tupS h, atI_nat (j := 1) rfl, y, jy, n, rfl, ry.same s1, fun G2 s2 => q G2 (s1.trans s2)⟩
  | non => rw [is_non_tuple] at q ⊢; exact iteF (q H (Same.refl H))
  | bl b => rw [is_bl_tuple] at q ⊢; exact iteF (q H (Same.refl H))
  | int i => rw [is_int_tuple] at q ⊢; exact iteF (q H (Same.refl H))
  | str x few => rw [is_str_tuple] at q ⊢; exact iteF (q H (Same.refl H))
  | lst h => rw [is_lst_tuple] at q ⊢; exact iteF (q H (Same.refl H))
  | dic h => rw [is_dic_tuple] at q ⊢; exact iteF (q H (Same.refl H))
  | obj h c => rw [is_obj_tuple] at q ⊢; exact iteF (q H (Same.refl H))
end
end K7

set_option Elab.async false
set_option linter.all false
set_option maxRecDepth 100000
set_option maxHeartbeats 1000000
/-! Yc: is_ascending of pairs, is_applied_set, first_from. -/
namespace K7
open PySem PySem.Spec PyProof.Rows L2 Gd
theorem PrsAt.js {K : PySem.W.Frag} {H : Hp} : ∀ {vs : List V} {qs : List Pr}, PrsAt K H vs qs → (∀ q ∈ qs, q.1.length ≤ 1000 ∧ q.2.length ≤ 1000) → JsAll K H vs (qs.map prJ)
  | _, _, .nil, _ => .nil
  | _, _, .cons h t, g => .cons (h.js (g _ List.mem_cons_self).1 (g _ List.mem_cons_self).2) (PrsAt.js t fun q hq => g q (List.mem_cons_of_mem _ hq))
def SrtP (qs : List Pr) : Prop := qs.Pairwise fun x y => ltQ x y = true
theorem SrtP.lt {qs : List Pr} (h : SrtP qs) {i j : Nat} {x y : Pr} (hx : qs[i]? = some x) (hy : qs[j]? = some y) (lt : i < j) : ltQ x y = true := by
  obtain ⟨h1, e1⟩ := List.getElem?_eq_some_iff.mp hx
  obtain ⟨h2, e2⟩ := List.getElem?_eq_some_iff.mp hy
  have z := List.pairwise_iff_getElem.mp h i j h1 h2 lt
  rw [e1, e2] at z
  exact z
theorem SrtP.nodup {qs : List Pr} (h : SrtP qs) : qs.Nodup := h.imp fun {a b} l e => by
  subst e
  rw [ltQ_irr] at l
  cases l
/-- what a net may apply -/
structure GoodP (n : Nat) (q : Pr) : Prop where
  nm : Nm q.1
  one : 1 ≤ q.2.length
  few : q.2.length ≤ 3
  inn : ∀ x ∈ q.2, 0 ≤ x ∧ x < n
section
variable {P : Program} {w : World} {K : PySem.W.Frag} {mg : Str → Option Value} {base : Heap}
def spAscP (K : PySem.W.Frag) : Sp := fun vs H Q _ => ∃ (a : Addr) (xs : List V) (qs : List Pr), vs = [.ref a] ∧ SqT K H a xs ∧ PrsAt K H xs qs ∧ SrtP qs ∧ xs.length ≤ 1000 ∧ ∀ G, Same H G → Q (.bl true) G
theorem ok_asc_pairs {f : Addr} {fd : FuncData} (F : Fun K "is_ascending" "is_ascending" s_is_ascending f fd) (B : Blt mg) : FnOk P w K mg base CX0 1 f fd ["values"] (spAscP K) := by
  refine F.ok sc_is_ascending (fun vs H Q E h => ?_) (fun cdv A outer s H vs Q E hr h => ?_)
  · obtain ⟨a, xs, qs, rfl, _⟩ := h
    rfl
  obtain ⟨a, xs, qs, rfl, hS, hq, srt, few, q⟩ := h
  refine ⟨_, (pss_one (ps_ret (pe_callB (cr_all rfl) (by rfl) B.all_ (by decide +kernel) (pa_cons (pe_lc (own := [("one", 1), ("other", 2)]) (g := gTup K 2 (gCons (gName 1) (gCons (gName 2) gNil))) (tt := tYes) rfl sc_is_ascending.nd (RZ.pi_zipA (by rfl) B.zip_ (pa_cons (pv 0) (pa_cons (pe_slice sl_tupU (pv 0) (po_some pe_int) po_none) pa_nil))) (blkOk_by (own := [("one", 1), ("other", 2)]) (N := nm_is_ascending) (sc := defScope s_is_ascending) (by decide +kernel)) (fun _ _ _ _ _ => (pg_tup rfl (pgs_cons (pg_name (i := 1) sc_is_ascending.nd rfl (.inl rfl)) (pgs_cons (pg_name (i := 2) sc_is_ascending.nd rfl (.inl rfl)) pgs_nil)))) (fun _ _ _ _ _ => pts_nil) (fun _ _ _ _ _ => (pe_cmpR (r := rLtD K) (op_ltD (by exact hr.units)) (pv 1) (pv 2) (nomark _)))) pa_nil)))), ?_⟩
  have ld : (xs.drop 1).length = xs.length - 1 := by rw [List.length_drop]
  refine ⟨.ref a, rfl, .ref a, rfl, 1, rfl, a, xs, rfl, hS, fun b H1 s1 hb1 => ?_⟩
  rw [cut_tail] at hb1
  refine ⟨a, b, _, _, rfl, .inr ⟨s1.tupS hS, hb1, fun D nD => ?_⟩⟩
  refine lc_zipG (n := xs.length - 1) (by omega) (Nat.le_of_eq ld.symm) (.inr (Nat.le_of_eq ld)) (Same H1) (fun i acc => acc = (List.replicate i true).map V.bl) (fun G z => ⟨z.tupS (s1.tupS hS), z.tupS hb1⟩)
    (fun G T o _ nT z => z.upG (z.free nT)) (Same.newG nD) rfl (fun i x y T G hx hy nx hT => ?_) (fun G acc sm eD ea => ?_)
  · obtain ⟨acc, sm, eD, ea⟩ := nx
    rw [List.getElem?_drop, Nat.add_comm] at hy
    obtain ⟨qx, ex, px⟩ := hq.get hx
    obtain ⟨qy, ey, py⟩ := hq.get hy
    have kp : KeepT H G := (SameN.of (Same.trans s1 sm)).keepT
    have lt := srt.lt ex ey (Nat.lt_succ_self i)
    refine ⟨T, _, rfl, .inl (.inl hT), rfl, _, _, rfl, _, _, rfl, rfl, rfl, tyes ⟨_, rfl, _, rfl, prD qx, prD qy, (px.mv kp).td.dp, (py.mv kp).td.dp, ok_pr _ _, plain_pr _, plain_pr _, Nat.le_trans (depth_pr _) (by decide), ?_⟩⟩
    rw [lt_pr, lt]
    refine nx_put (fun G o z => z.upG nD) sm eD ?_ ?_
    · have hl := (List.getElem?_eq_some_iff.mp hx).1
      rw [ea, List.length_map, List.length_replicate]
      omega
    · rw [ea, List.replicate_succ', List.map_append]
      rfl
  · refine ⟨D, List.replicate (xs.length - 1) true, rfl, .inl (.inl ?_), ?_⟩
    · rw [eD, ea]
    · have e : (List.replicate (xs.length - 1) true).all id = true := List.all_eq_true.mpr fun b hb => (List.mem_replicate.mp hb).2
      rw [e]
      exact q G (s1.trans sm)
theorem app_good {n : Nat} {q : Pr} (hn : n ≤ 60) (g : GoodP n q) : appJ n (prJ q) = true := by
  have e : appJ n (prJ q) = (nameJ (.str q.1) && unkJ n (.tup (q.2.map Jv.int))) := by
    show ((Jv.tup [.str q.1, .tup (q.2.map Jv.int)]).is "tuple" && (decide ((2 : Int) = 2) && (nameJ (.str q.1) && unkJ n (.tup (q.2.map Jv.int))))) = _
    rw [is_tup_tuple]
    rfl
  rw [e, name_good g.nm, Bool.true_and]
  show ((Jv.tup (q.2.map Jv.int)).is "tuple" && (decide ((1 : Int) ≤ ((q.2.map Jv.int).length : Int)) && decide (((q.2.map Jv.int).length : Int) ≤ 3) && (q.2.map Jv.int).all (belowJ n))) = true
  rw [is_tup_tuple, List.length_map, decide_eq_true (show (1 : Int) ≤ (q.2.length : Int) by have := g.one; omega), decide_eq_true (show (q.2.length : Int) ≤ 3 by have := g.few; omega)]
  rw [Bool.true_and, Bool.true_and, Bool.true_and, List.all_map]
  exact List.all_eq_true.mpr fun x hx => by
    have z := g.inn x hx
    show ((((decide (-TL < x) && decide (x < TL)) && decide (0 ≤ x)) && decide (x < (n : Int))) = true)
    rw [decide_eq_true (show -TL < x by unfold TL; omega), decide_eq_true (show x < TL by unfold TL; omega), decide_eq_true z.1, decide_eq_true z.2]
    rfl
def spAppSet (K : PySem.W.Frag) : Sp := fun vs H Q _ => ∃ (a : Addr) (xs : List V) (qs : List Pr) (n : Nat), vs = [.int n, .ref a] ∧ n ≤ 60 ∧ SqT K H a xs ∧ PrsAt K H xs qs ∧ SrtP qs ∧ (∀ q ∈ qs, GoodP n q) ∧ xs.length ≤ 1000 ∧ ∀ G, Same H G → Q (.bl true) G
theorem ok_is_applied_set {f : Addr} {fd : FuncData} (F : Fun K "is_applied_set" "is_applied_set" s_is_applied_set f fd) (B : Blt mg) {t1 : Tok} (g_MAX_APPLIED : mg "MAX_APPLIED" = some (.int 30000 t1)) (C : Has P w K mg base 5 "is_applied" ["size", "value"] (spApp K)) (C2 : Has P w K mg base 1 "is_ascending" ["values"] (spAscP K)) : FnOk P w K mg base CX0 6 f fd ["size", "value"] (spAppSet K) := by
  obtain ⟨f1, fd1, G_is_applied, g_is_applied, k_is_applied, b_is_applied⟩ := C.ex
  obtain ⟨f2, fd2, G_is_ascending, g_is_ascending, k_is_ascending, b_is_ascending⟩ := C2.ex
  refine F.ok sc_is_applied_set (fun vs H Q E h => ?_) (fun cdv A outer s H vs Q E hr h => ?_)
  · obtain ⟨a, xs, qs, n, rfl, _⟩ := h
    rfl
  obtain ⟨a, xs, qs, n, rfl, hn, hS, hq, srt, good, few, q⟩ := h
  refine ⟨_, (pss_one (ps_ret (pe_and (pe_callB call_isi (by rfl) B.isinstance_ (by decide +kernel) (pa_cons (pv 1) (pa_cons (pe_bltn (v := .ty "tuple") rfl B.tuple_ boot_tuple rfl) pa_nil))) (pe_and (pe_cmpR op_le (pe_callB call_len_seq (by rfl) B.len_ (by decide +kernel) (pa_cons (pv 1) pa_nil)) (pe_glob (v := .int 30000) rfl g_MAX_APPLIED ⟨_, rfl⟩) (nomark _)) (pe_and (pe_callB (cr_all rfl) (by rfl) B.all_ (by decide +kernel) (pa_cons (pe_lc (own := [("tie", 2)]) (g := gName 2) (tt := tYes) rfl sc_is_applied_set.nd (pi_tup (pv 1)) (blkOk_by (own := [("tie", 2)]) (N := nm_is_applied_set) (sc := defScope s_is_applied_set) (by decide +kernel)) (fun _ _ _ _ _ => (pg_name (i := 2) sc_is_applied_set.nd rfl (.inl rfl))) (fun _ _ _ _ _ => pts_nil) (fun _ _ _ _ _ => (pe_call G_is_applied (hr.mono (by decide)) (by rfl) g_is_applied k_is_applied b_is_applied .nil pass0 (pa_cons (pv 0) (pa_cons (pv 2) pa_nil))))) pa_nil)) (pe_one (pe_call G_is_ascending (hr.mono (by decide)) (by rfl) g_is_ascending k_is_ascending b_is_ascending .nil pass0 (pa_cons (pv 1) pa_nil)))))))), ?_⟩
  have js : Js K H (.ref a) (.tup (qs.map prJ)) := .tup hS few (hq.js fun q hm => ⟨by have := (good q hm).nm.2.1; omega, by have := (good q hm).few; omega⟩)
  refine ⟨.ref a, rfl, js.isi (.inr (.inr (.inr (.inl rfl)))) ⟨_, rfl, ?_⟩⟩
  rw [is_tup_tuple]
  refine iteT ⟨.ref a, rfl, a, xs, rfl, .inr hS, _, 30000, rfl, rfl, _, rfl, ?_⟩
  rw [decide_eq_true (show (xs.length : Int) ≤ 30000 by omega)]
  refine iteT ⟨.ref a, rfl, a, rfl, ⟨xs, hS⟩, fun D nD => ?_⟩
  refine lc_tupG (xs := xs) (Same H) (fun i acc => acc = (List.replicate i true).map V.bl) (fun G z => z.tupS hS) (Same.newG nD) rfl (fun i v G hi nx hv => ?_) (fun G acc sm eD ea => ?_)
  · obtain ⟨acc, sm, eD, ea⟩ := nx
    obtain ⟨q', eq', pq⟩ := hq.get hv
    have g := good q' (List.mem_of_getElem? eq')
    have jv : Js K G v (prJ q') := (pq.mv (SameN.of sm).keepT).js (by have := g.nm.2.1; omega) (by have := g.few; omega)
    refine ⟨rfl, tyes ⟨.int n, rfl, v, rfl, v, prJ q', n, rfl, jv, fun G2 s2 => ?_⟩⟩
    rw [app_good hn g]
    refine nx_put (fun F o z => z.upG nD) (Same.trans sm s2) (s2 _ _ eD) ?_ ?_
    · rw [ea, List.length_map, List.length_replicate]
      omega
    · rw [ea, List.replicate_succ', List.map_append]
      rfl
  · refine ⟨D, List.replicate xs.length true, rfl, .inl (.inl ?_), ?_⟩
    · rw [eD, ea]
    · have e : (List.replicate xs.length true).all id = true := List.all_eq_true.mpr fun b hb => (List.mem_replicate.mp hb).2
      rw [e]
      exact ⟨_, rfl, iteT ⟨.ref a, rfl, a, xs, qs, rfl, sm.tupS hS, hq.mv (SameN.of sm).keepT, srt, few, fun G2 s2 => q G2 (Same.trans sm s2)⟩⟩
def spFirst (K : PySem.W.Frag) : Sp := fun vs H Q _ => ∃ (t : Addr) (ts : List V) (qs : List Pr) (v : V) (q : Pr), vs = [.ref t, v] ∧ SqT K H t ts ∧ PrsAt K H ts qs ∧ SrtP qs ∧ Td K H v (prD q) ∧ ts.length ≤ 1000 ∧ ∀ i : Nat, i ≤ qs.length → (∀ j, qs[j]? = some q → i = j) → Q (.int i) H
theorem ok_first_from {f : Addr} {fd : FuncData} (F : Fun K "first_from" "first_from" s_first_from f fd) (B : Blt mg) : FnOk P w K mg base CX0 1 f fd ["ties", "tie"] (spFirst K) := by
  refine F.ok sc_first_from (fun vs H Q E h => ?_) (fun cdv A outer s H vs Q E hr h => ?_)
  · obtain ⟨t, ts, qs, v, q, rfl, _⟩ := h
    rfl
  obtain ⟨t, ts, qs, v, q, rfl, hS, hq, srt, td, few, fin⟩ := h
  refine ⟨_, (pss_cons (ps_set (i := 2) sc_first_from.nd rfl (.inl rfl) pe_int)
  (pss_cons (ps_set (i := 3) sc_first_from.nd rfl (.inl rfl) (pe_callB call_len_seq (by rfl) B.len_ (by decide +kernel) (pa_cons (pv 0) pa_nil)))
  (pss_cons (ps_while PassesOwn.never (pt_cmpR op_lt (pv 2) (pv 3) (nomark _)) (pss_cons (ps_set (i := 4) sc_first_from.nd rfl (.inl rfl) (pe_op op_fdivW (pe_op op_add (pv 2) (pv 3)) pe_int))
  (pss_one (ps_if (pt_cmpR (op_ltD hr.units) (pe_ix ix_tup (pv 0) (pv 4) (fun _ _ => rfl)) (pv 1) (nomark _)) (pss_one (ps_set (i := 2) sc_first_from.nd rfl (.inl rfl) (pe_op op_add (pv 4) pe_int))) (pss_one (ps_set (i := 3) sc_first_from.nd rfl (.inl rfl) (pv 4)))))))
  (pss_one (ps_ret (pv 2)))))), ?_⟩
  have hl := hq.len
  refine ⟨.ref t, rfl, t, ts, rfl, .inr hS, ?_⟩
  refine ⟨fun m σ H' => H' = H ∧ ∃ (lo hi : Nat) (z4 : Option V), σ = [some (.ref t), some v, some (.int lo), some (.int hi), z4] ∧ lo ≤ hi ∧ hi ≤ qs.length ∧ m = hi - lo ∧ ∀ j, qs[j]? = some q → lo ≤ j ∧ j ≤ hi, ⟨qs.length, rfl, 0, qs.length, none, by rw [← hl]; rfl, Nat.zero_le _, Nat.le_refl _, rfl, fun j hj => ⟨Nat.zero_le _, Nat.le_of_lt (List.getElem?_eq_some_iff.mp hj).1⟩⟩, fun m σ H' hW => ?_⟩
  obtain ⟨rfl, lo, hi, z4, rfl, h1, h2, h3, h4⟩ := hW
  refine ⟨_, rfl, _, rfl, lo, hi, rfl, rfl, _, rfl, ?_⟩
  by_cases c : lo < hi
  · rw [decide_eq_true (show (lo : Int) < (hi : Int) by omega)]
    refine iteT ⟨fun σ' G => G = H' ∧ ∃ (lo' hi' : Nat) (z : Option V), σ' = [some (.ref t), some v, some (.int lo'), some (.int hi'), z] ∧ lo' ≤ hi' ∧ hi' ≤ qs.length ∧ hi' - lo' < hi - lo ∧ ∀ j, qs[j]? = some q → lo' ≤ j ∧ j ≤ hi', fun σ' G hN => ?_, ?_⟩
    · obtain ⟨e, lo', hi', z, e2, g1, g2, g3, g4⟩ := hN
      exact ⟨hi' - lo', by omega, e, lo', hi', z, e2, g1, g2, rfl, g4⟩
    · refine ⟨_, rfl, _, rfl, lo, hi, rfl, rfl, ?_⟩
      refine ⟨(lo : Int) + hi, 2, rfl, rfl, ⟨by decide, by decide⟩, ?_⟩
      have em : ((lo : Int) + hi) / 2 = (((lo + hi) / 2 : Nat) : Int) := by omega
      show gName 4 (V.int (((lo : Int) + hi) / 2)) _ _ _
      rw [em]
      generalize hmid : (lo + hi) / 2 = mid
      have m1 : lo ≤ mid := by omega
      have m2 : mid < hi := by omega
      have hmq : qs[mid]? = some (qs[mid]'(by omega)) := List.getElem?_eq_getElem (by omega)
      generalize qs[mid]'(by omega) = qm at hmq
      obtain ⟨vm, evm, pm⟩ := hq.at hmq
      refine ⟨.ref t, rfl, _, rfl, t, ts, (mid : Int), vm, rfl, rfl, hS, atI_nat evm, v, rfl, prD qm, prD q, pm.td.dp, td.dp, ok_pr _ _, plain_pr _, plain_pr _, Nat.le_trans (depth_pr _) (by decide), ?_⟩
      rw [lt_pr]
      cases hc : ltQ qm q with
      | true =>
        refine ⟨_, rfl, iteT ?_⟩
        refine ⟨_, rfl, (mid : Int), 1, rfl, rfl, ?_⟩
        refine ⟨rfl, mid + 1, hi, _, rfl, by omega, h2, by omega, fun j hj => ⟨?_, (h4 j hj).2⟩⟩
        rcases Nat.lt_or_ge mid j with z | z
        · exact z
        · exfalso
          rcases Nat.lt_or_ge j mid with y | y
          · have a := srt.lt hj hmq y
            have b := ltQ_asym _ _ a
            rw [hc] at b
            cases b
          · have e : j = mid := by omega
            subst e
            rw [hj] at hmq
            cases hmq
            rw [ltQ_irr] at hc
            cases hc
      | false =>
        refine ⟨_, rfl, iteF ?_⟩
        refine ⟨_, rfl, rfl, lo, mid, _, rfl, m1, by omega, by omega, fun j hj => ⟨(h4 j hj).1, ?_⟩⟩
        rcases Nat.lt_or_ge mid j with z | z
        · have a := srt.lt hmq hj z
          rw [hc] at a
          cases a
        · exact z
  · rw [decide_eq_false (show ¬ (lo : Int) < (hi : Int) by omega)]
    refine iteF ?_
    have e : lo = hi := by omega
    subst e
    exact ⟨_, rfl, fin lo h2 fun j hj => by have := h4 j hj; omega⟩
end
end K7

set_option Elab.async false
set_option linter.all false
set_option maxRecDepth 100000
set_option maxHeartbeats 1000000
/-! Yd: the class Net. -/
namespace K7
open PySem PySem.Spec PyProof.Rows L2 Gd
def nf (n : Int) (t : Addr) : List (Str × V) := [("_size", .int n), ("_ties", .ref t)]
theorem nf_size (n : Int) (t : Addr) : (nf n t).lookup ("_size" : Str) = some (.int n) := by kernel_rfl
theorem nf_ties (n : Int) (t : Addr) : (nf n t).lookup ("_ties" : Str) = some (.ref t) := by kernel_rfl
theorem nf_make (n : Int) (t : Addr) : putF ("_ties" : Str) (.ref t) (putF ("_size" : Str) (.int n) []) = nf n t := by kernel_rfl
theorem nf_n1 (n : Int) : (putF ("_size" : Str) (.int n) ([] : List (Str × V))).length = 1 := by kernel_rfl
/-- what the class is -/
structure Bn (K : PySem.W.Frag) (mg : Str → Option Value) (C : Addr) : Prop where
  cl : Cls K C
  nS : NoAttr K C "_size"
  nT : NoAttr K C "_ties"
  pl : PlainC K C
  kb : ∀ T, (T = "NoneType" ∨ T = "bool" ∨ T = "int" ∨ T = "str" ∨ T = "list" ∨ T = "dict" ∨ T = "tuple") → PySem.W.kitOne K (.type T) (.ref C) = some false ∧ PySem.W.notFirst K C (.type T) = true
  mgC : mg "Net" = some (.ref C)
/-- the applied ties at t -/
def TsAt (K : PySem.W.Frag) (H : Hp) (t : Addr) (qs : List Pr) : Prop := ∃ ts, SqT K H t ts ∧ PrsAt K H ts qs
theorem TsAt.mv {K : PySem.W.Frag} {H G : Hp} (s : KeepT H G) {t : Addr} {qs : List Pr} (h : TsAt K H t qs) : TsAt K G t qs := by
  obtain ⟨ts, h1, h2⟩ := h
  exact ⟨ts, s.sqT h1, h2.mv s⟩
structure OkN (n : Nat) (qs : List Pr) : Prop where
  n60 : n ≤ 60
  srt : SrtP qs
  good : ∀ q ∈ qs, GoodP n q
  few : qs.length ≤ 20
def NetAt (K : PySem.W.Frag) (H : Hp) (C a : Addr) (n : Nat) (t : Addr) (qs : List Pr) : Prop := (∃ dx, H a = some (.ins C dx (nf n t))) ∧ TsAt K H t qs
theorem NetAt.sameN {K : PySem.W.Frag} {H G : Hp} {C a t : Addr} {n : Nat} {qs : List Pr} (s : SameN H G) (h : NetAt K H C a n t qs) : NetAt K G C a n t qs := by
  obtain ⟨⟨dx, h1⟩, h2⟩ := h
  exact ⟨⟨dx, s _ _ h1 (fun _ z => nomatch z)⟩, h2.mv s.keepT⟩
def strJ : Jv → Str
  | .str x => x
  | _ => Str.empty
def prOf (j : Jv) : Pr := (strJ (fstJ j), intsJ (sndJ j))
def inB (n : Nat) (qs : List Pr) (j : Jv) : Bool := appJ n j && decide (prOf j ∈ qs)
theorem app_pair {K : PySem.W.Frag} {H : Hp} {n : Int} {v : V} {j : Jv} (h : Js K H v j) (e : appJ n j = true) : PrAt K H v (prOf j) := by
  have e : (j.is "tuple" && (decide (((itemsJ j).length : Int) = 2) && (nameJ (fstJ j) && unkJ n (sndJ j)))) = true := e
  rw [Bool.and_eq_true, Bool.and_eq_true, Bool.and_eq_true] at e
  obtain ⟨e1, e2, e3, e4⟩ := e
  cases h with
  | @tup a xs js h few r =>
    have l2 : xs.length = 2 := by
      have z := of_decide_eq_true e2
      have := r.len
      have w : (itemsJ (.tup js)).length = js.length := rfl
      omega
    obtain ⟨x0, x1, j0, j1, ex, ej, r0, r1⟩ := JsAll.two' r l2
    subst ex ej
    have e3 : nameJ j0 = true := e3
    have e4 : unkJ n j1 = true := e4
    have f3 : ∃ x, j0 = .str x := by
      cases j0 with
      | str x => exact ⟨x, rfl⟩
      | _ => exact absurd e3 (by simp [nameJ])
    obtain ⟨x, rfl⟩ := f3
    have x0e : x0 = .str x := by cases r0; rfl
    subst x0e
    have e4' : (j1.is "tuple" && (decide ((1 : Int) ≤ ((itemsJ j1).length : Int)) && decide (((itemsJ j1).length : Int) ≤ 3) && (itemsJ j1).all (belowJ n))) = true := e4
    rw [Bool.and_eq_true, Bool.and_eq_true] at e4'
    obtain ⟨f1, _, f2⟩ := e4'
    cases r1 with
    | @tup b ys ks h2 few2 rr =>
      have z := all_below_ints rr f2
      exact ⟨a, b, rfl, h, by
        show SqT K H b ((ks.map valJ).map V.int)
        rw [← z]
        exact h2⟩
    | non => rw [is_non_tuple] at f1; cases f1
    | bl b => rw [is_bl_tuple] at f1; cases f1
    | int i => rw [is_int_tuple] at f1; cases f1
    | str x few => rw [is_str_tuple] at f1; cases f1
    | lst h => rw [is_lst_tuple] at f1; cases f1
    | dic h => rw [is_dic_tuple] at f1; cases f1
    | obj h c => rw [is_obj_tuple] at f1; cases f1
  | non => rw [is_non_tuple] at e1; cases e1
  | bl b => rw [is_bl_tuple] at e1; cases e1
  | int i => rw [is_int_tuple] at e1; cases e1
  | str x few => rw [is_str_tuple] at e1; cases e1
  | lst h => rw [is_lst_tuple] at e1; cases e1
  | dic h => rw [is_dic_tuple] at e1; cases e1
  | obj h c => rw [is_obj_tuple] at e1; cases e1
section
variable {P : Program} {w : World} {K : PySem.W.Frag} {mg : Str → Option Value} {base : Heap} {C : Addr}
def spNInit (K : PySem.W.Frag) (C : Addr) : Sp := fun vs H Q _ => ∃ (a dx t : Addr) (n : Nat) (qs : List Pr), vs = [.ref a, .int n, .ref t] ∧ H a = some (.ins C dx []) ∧ TsAt K H t qs ∧ OkN n qs ∧ ∀ G, SameX a H G → NetAt K G C a n t qs → Q .non G
theorem ok_ninit {f : Addr} {fd : FuncData} (F : Fun K "__init__" "Net.__init__" s_Net_init f fd) (T : Bn K mg C) (C1 : Has P w K mg base 2 "is_size" ["value"] (spSize K)) (C2 : Has P w K mg base 6 "is_applied_set" ["size", "value"] (spAppSet K)) : FnOk P w K mg base CX0 7 f fd ["self", "size", "ties"] (spNInit K C) := by
  obtain ⟨f1, fd1, G_is_size, g_is_size, k_is_size, b_is_size⟩ := C1.ex
  obtain ⟨f2, fd2, G_is_applied_set, g_is_applied_set, k_is_applied_set, b_is_applied_set⟩ := C2.ex
  refine F.ok sc_Net_init (fun vs H Q E h => ?_) (fun cdv A outer s H vs Q E hr h => ?_)
  · obtain ⟨a, dx, t, n, qs, rfl, _⟩ := h
    rfl
  obtain ⟨a, dx, t, n, qs, rfl, ha, hT, ok, q⟩ := h
  obtain ⟨ts, hS, hq⟩ := id hT
  refine ⟨_, (pss_cons (ps_if (pt_not (pt_val (pe_call G_is_size (hr.mono (by decide)) (by rfl) g_is_size k_is_size b_is_size .nil pass0 (pa_cons (pv 1) pa_nil)))) (pss_one ps_never) pss_nil)
  (pss_cons (ps_if (pt_not (pt_val (pe_call G_is_applied_set (hr.mono (by decide)) (by rfl) g_is_applied_set k_is_applied_set b_is_applied_set .nil pass0 (pa_cons (pv 1) (pa_cons (pv 2) pa_nil))))) (pss_one ps_never) pss_nil)
  (pss_cons (ps_fld (pv 0) (pv 1) rfl)
  (pss_one (ps_fld (pv 0) (pv 2) rfl))))), ?_⟩
  refine ⟨.int n, rfl, n, rfl, ok.n60, _, rfl, iteF ?_⟩
  refine ⟨.int n, rfl, .ref t, rfl, t, ts, qs, n, rfl, ok.n60, hS, hq, ok.srt, ok.good, by rw [hq.len]; have := ok.few; omega, fun G1 s1 => ⟨_, rfl, iteF ?_⟩⟩
  refine ⟨.int n, rfl, .ref a, rfl, a, C, dx, _, rfl, s1 _ _ ha, T.cl, T.nS, by decide, ?_⟩
  have x1 : SameX a H (upd G1 a (.ins C dx (putF ("_size" : Str) (.int n) []))) := (SameX.of s1).trans (SameX.at _)
  have e1 : (upd G1 a (.ins C dx (putF ("_size" : Str) (.int n) []))) a = some (.ins C dx (putF ("_size" : Str) (.int n) [])) := upd_same
  generalize upd G1 a (.ins C dx (putF ("_size" : Str) (.int n) [])) = H1 at x1 e1 ⊢
  refine ⟨.ref t, rfl, .ref a, rfl, a, C, dx, _, rfl, e1, T.cl, T.nT, by rw [nf_n1]; decide, ?_⟩
  rw [nf_make]
  have x2 : SameX a H (upd H1 a (.ins C dx (nf n t))) := x1.trans (SameX.at _)
  exact q _ x2 ⟨⟨dx, upd_same⟩, hT.mv (x2.keepT ha)⟩
theorem ok_nsize {f : Addr} {fd : FuncData} (F : Fun K "size" "Net.size" s_Net_size f fd) (T : Bn K mg C) : FnOk P w K mg base CX0 1 f fd ["self"] (getSp C "_size") := by
  refine F.ok sc_Net_size (fun vs H Q E h => ?_) (fun cdv A outer s H vs Q E hr h => ?_)
  · obtain ⟨a, dx, fs, v, rfl, _⟩ := h
    rfl
  obtain ⟨a, dx, fs, v, rfl, ha, l, q⟩ := h
  exact ⟨_, (pss_one (ps_ret (pe_fld (pv 0) rfl))), .ref a, rfl, a, C, dx, fs, v, rfl, ha, T.cl, T.nS, l, q⟩
theorem ok_nties {f : Addr} {fd : FuncData} (F : Fun K "ties" "Net.ties" s_Net_ties f fd) (T : Bn K mg C) : FnOk P w K mg base CX0 1 f fd ["self"] (getSp C "_ties") := by
  refine F.ok sc_Net_ties (fun vs H Q E h => ?_) (fun cdv A outer s H vs Q E hr h => ?_)
  · obtain ⟨a, dx, fs, v, rfl, _⟩ := h
    rfl
  obtain ⟨a, dx, fs, v, rfl, ha, l, q⟩ := h
  exact ⟨_, (pss_one (ps_ret (pe_fld (pv 0) rfl))), .ref a, rfl, a, C, dx, fs, v, rfl, ha, T.cl, T.nT, l, q⟩
def spLenN (K : PySem.W.Frag) (C : Addr) : Sp := fun vs H Q _ => ∃ (a t : Addr) (n : Nat) (qs : List Pr), vs = [.ref a] ∧ NetAt K H C a n t qs ∧ Q (.int (qs.length : Int)) H
theorem ok_nlen {f : Addr} {fd : FuncData} (F : Fun K "__len__" "Net.__len__" s_Net_len f fd) (B : Blt mg) (T : Bn K mg C) : FnOk P w K mg base CX0 1 f fd ["self"] (spLenN K C) := by
  refine F.ok sc_Net_len (fun vs H Q E h => ?_) (fun cdv A outer s H vs Q E hr h => ?_)
  · obtain ⟨a, t, n, qs, rfl, _⟩ := h
    rfl
  obtain ⟨a, t, n, qs, rfl, ⟨⟨dx, ha⟩, ts, hS, hq⟩, q⟩ := h
  refine ⟨_, (pss_one (ps_ret (pe_callB call_len_seq (by rfl) B.len_ (by decide +kernel) (pa_cons (pe_fld (pv 0) rfl) pa_nil)))), ?_⟩
  refine ⟨.ref a, rfl, a, C, dx, _, _, rfl, ha, T.cl, T.nT, nf_ties _ _, t, ts, rfl, .inr hS, ?_⟩
  rw [hq.len]
  exact q
def spInN (K : PySem.W.Frag) (C : Addr) : Sp := fun vs H Q _ => ∃ (a t : Addr) (n : Nat) (qs : List Pr) (v : V) (j : Jv), vs = [.ref a, v] ∧ NetAt K H C a n t qs ∧ OkN n qs ∧ Js K H v j ∧ ∀ G, Same H G → Q (.bl (inB n qs j)) G
theorem ok_ncontains {f : Addr} {fd : FuncData} (F : Fun K "__contains__" "Net.__contains__" s_Net_contains f fd) (B : Blt mg) (T : Bn K mg C) (C1 : Has P w K mg base 5 "is_applied" ["size", "value"] (spApp K)) (C2 : Has P w K mg base 1 "first_from" ["ties", "tie"] (spFirst K)) : FnOk P w K mg base CX0 6 f fd ["self", "value"] (spInN K C) := by
  obtain ⟨f1, fd1, G_is_applied, g_is_applied, k_is_applied, b_is_applied⟩ := C1.ex
  obtain ⟨f2, fd2, G_first_from, g_first_from, k_first_from, b_first_from⟩ := C2.ex
  refine F.ok sc_Net_contains (fun vs H Q E h => ?_) (fun cdv A outer s H vs Q E hr h => ?_)
  · obtain ⟨a, t, n, qs, v, j, rfl, _⟩ := h
    rfl
  obtain ⟨a, t, n, qs, v, j, rfl, ⟨⟨dx, ha⟩, ts, hS, hq⟩, ok, hj, q⟩ := h
  refine ⟨_, (pss_cons (ps_if (pt_not (pt_val (pe_call G_is_applied (hr.mono (by decide)) (by rfl) g_is_applied k_is_applied b_is_applied .nil pass0 (pa_cons (pe_fld (pv 0) rfl) (pa_cons (pv 1) pa_nil))))) (pss_one (ps_ret pe_bl)) pss_nil)
  (pss_cons (ps_set (i := 2) sc_Net_contains.nd rfl (.inl rfl) (pe_call G_first_from (hr.mono (by decide)) (by rfl) g_first_from k_first_from b_first_from .nil pass0 (pa_cons (pe_fld (pv 0) rfl) (pa_cons (pv 1) pa_nil))))
  (pss_one (ps_ret (pe_and (pe_cmpR op_lt (pv 2) (pe_callB call_len_seq (by rfl) B.len_ (by decide +kernel) (pa_cons (pe_fld (pv 0) rfl) pa_nil)) (nomark _)) (pe_one (pe_cmpR (op_eqP hr.units) (pe_ix ix_tup (pe_fld (pv 0) rfl) (pv 2) (fun _ _ => rfl)) (pv 1) (nomark _)))))))), ?_⟩
  refine ⟨.ref a, rfl, a, C, dx, _, _, rfl, ha, T.cl, T.nS, nf_size _ _, v, rfl, v, j, n, rfl, hj, fun G1 s1 => ⟨_, rfl, ?_⟩⟩
  have eB : inB n qs j = (appJ n j && decide (prOf j ∈ qs)) := rfl
  rw [eB] at q
  cases e : appJ n j with
  | false =>
    rw [e, Bool.false_and] at q
    exact iteT (q G1 s1)
  | true =>
    rw [e, Bool.true_and] at q
    refine iteF ?_
    have pv := app_pair (hj.same s1) e
    have hS1 := s1.tupS hS
    have hq1 := hq.mv (SameN.of s1).keepT
    refine ⟨.ref a, rfl, a, C, dx, _, _, rfl, s1 _ _ ha, T.cl, T.nT, nf_ties _ _, v, rfl, t, ts, qs, v, prOf j, rfl, hS1, hq1, ok.srt, pv.td, by rw [hq.len]; have := ok.few; omega, fun i hi uniq => ?_⟩
    refine ⟨.int i, rfl, .ref a, rfl, a, C, dx, _, _, rfl, s1 _ _ ha, T.cl, T.nT, nf_ties _ _, t, ts, rfl, .inr hS1, i, (ts.length : Int), rfl, rfl, _, rfl, ?_⟩
    by_cases c : i < ts.length
    · rw [decide_eq_true (show (i : Int) < (ts.length : Int) by omega)]
      obtain ⟨qi, eqi, pqi⟩ := hq1.get (List.getElem?_eq_getElem c)
      refine iteT ⟨.ref a, rfl, a, C, dx, _, _, rfl, s1 _ _ ha, T.cl, T.nT, nf_ties _ _, .int i, rfl, t, ts, (i : Int), _, rfl, rfl, hS1, atI_nat (List.getElem?_eq_getElem c), v, rfl, prD qi, prD (prOf j), pqi.td.dp, pv.td.dp, plain_pr _, plain_pr _, Nat.le_trans (depth_pr _) (by decide), ?_⟩
      rw [if_neg (by decide), eqv_pr]
      have ed : decide (qi = prOf j) = decide (prOf j ∈ qs) := by
        refine decide_eq_decide.mpr ⟨fun z => ?_, fun z => ?_⟩
        · rw [← z]
          exact List.mem_of_getElem? eqi
        · obtain ⟨k, hk⟩ := List.mem_iff_getElem?.mp z
          have := uniq k hk
          subst this
          rw [hk] at eqi
          exact (Option.some.inj eqi).symm
      rw [ed]
      exact q G1 s1
    · rw [decide_eq_false (show ¬ (i : Int) < (ts.length : Int) by omega)]
      have no : decide (prOf j ∈ qs) = false := by
        rw [decide_eq_false_iff_not]
        intro z
        obtain ⟨k, hk⟩ := List.mem_iff_getElem?.mp z
        have := uniq k hk
        have := (List.getElem?_eq_some_iff.mp hk).1
        have := hq.len
        omega
      rw [no] at q
      exact iteF (q G1 s1)
def eqN (n m : Nat) (qs rs : List Pr) : Bool := decide (n = m) && decide (qs = rs)
def spEqN (K : PySem.W.Frag) (C : Addr) : Sp := fun vs H Q _ => ∃ (a t : Addr) (n : Nat) (qs : List Pr) (v : V), vs = [.ref a, v] ∧ NetAt K H C a n t qs ∧
  ((∃ j, Js K H v j ∧ (∀ D, j ≠ .obj D) ∧ Q (.bl false) H) ∨ ∃ (b t2 : Addr) (m : Nat) (rs : List Pr), v = .ref b ∧ NetAt K H C b m t2 rs ∧ Q (.bl (eqN n m qs rs)) H)
theorem kit_net {T : Bn K mg C} {H : Hp} {v : V} {j : Jv} (h : Js K H v j) (no : ∀ D, j ≠ .obj D) : PySem.W.kitOne K j.ty (.ref C) = some false ∧ PySem.W.notFirst K C j.ty = true := by
  cases h with
  | non => exact T.kb _ (by simp)
  | bl b => exact T.kb _ (by simp)
  | int i => exact T.kb _ (by simp)
  | str x few => exact T.kb _ (by simp)
  | lst h => exact T.kb _ (by simp)
  | dic h => exact T.kb _ (by simp)
  | obj h c => exact absurd rfl (no _)
  | tup h few r => exact T.kb _ (by simp)
theorem Bn.tyX {H : Hp} {a dx : Addr} {fs : List (Str × V)} (T : Bn K mg C) (ha : H a = some (.ins C dx fs)) : TyX K H (.ref a) (.ref C) := (Js.obj ha T.pl).tyX
theorem ok_neq {f : Addr} {fd : FuncData} (F : Fun K "__eq__" "Net.__eq__" s_Net_eq f fd) (B : Blt mg) (T : Bn K mg C) : FnOk P w K mg base CX0 1 f fd ["self", "other"] (spEqN K C) := by
  refine F.ok sc_Net_eq (fun vs H Q E h => ?_) (fun cdv A outer s H vs Q E hr h => ?_)
  · obtain ⟨a, t, n, qs, v, rfl, _⟩ := h
    rfl
  obtain ⟨a, t, n, qs, v, rfl, ⟨⟨dx, ha⟩, ts, hS, hq⟩, hh⟩ := h
  refine ⟨_, (pss_one (ps_ret (pe_and (pe_callB call_isi (by rfl) B.isinstance_ (by decide +kernel) (pa_cons (pv 1) (pa_cons (pe_glob (v := .ref C) rfl T.mgC rfl) pa_nil))) (pe_and (pe_cmpR op_eq (pe_fld (pv 0) rfl) (pe_fld (pv 1) rfl) (nomark _)) (pe_one (pe_cmpR (op_eqP hr.units) (pe_fld (pv 0) rfl) (pe_fld (pv 1) rfl) (nomark _))))))), ?_⟩
  rcases hh with ⟨j, hj, no, q⟩ | ⟨b, t2, m, rs, rfl, ⟨⟨dx2, ha2⟩, ts2, hS2, hq2⟩, q⟩
  · refine ⟨v, rfl, v, .ref C, j.ty, _, false, rfl, .own C, hj.tyX, (kit_net (T := T) hj no).1, _, rfl, iteF q⟩
  · refine ⟨.ref b, rfl, .ref b, .ref C, .ref C, _, true, rfl, .own C, T.tyX ha2, kit_self, _, rfl, iteT ?_⟩
    refine ⟨.ref a, rfl, a, C, dx, _, _, rfl, ha, T.cl, T.nS, nf_size _ _, .ref b, rfl, b, C, dx2, _, _, rfl, ha2, T.cl, T.nS, nf_size _ _, rfl, _, rfl, ?_⟩
    rw [dec_v]
    have en : decide ((n : Int) = (m : Int)) = decide (n = m) := decide_eq_decide.mpr (by omega)
    rw [en]
    have q : Q (.bl (decide (n = m) && decide (qs = rs))) H := q
    cases e : decide (n = m) with
    | false =>
      rw [e, Bool.false_and] at q
      exact iteF q
    | true =>
      rw [e, Bool.true_and] at q
      refine iteT ⟨.ref a, rfl, a, C, dx, _, _, rfl, ha, T.cl, T.nT, nf_ties _ _, .ref b, rfl, b, C, dx2, _, _, rfl, ha2, T.cl, T.nT, nf_ties _ _, prsD qs, prsD rs, (hq.td hS).dp, (hq2.td hS2).dp, plain_prs _, plain_prs _, Nat.le_trans (depth_prs _) (by decide), ?_⟩
      rw [if_neg (by decide), eqv_prs]
      exact q
/-- iter(self) -/
def IsTies (K : PySem.W.Frag) (C : Addr) (a : Addr) (H : Hp) (t : Addr) (xs : List V) : Prop := ∃ dx fs, H a = some (.ins C dx fs) ∧ fs.lookup ("_ties" : Str) = some (.ref t)
theorem ok_niter {f : Addr} {fd : FuncData} (F : Fun K "__iter__" "Net.__iter__" s_Net_iter f fd) (B : Blt mg) (T : Bn K mg C) : FnS P w K mg base CX0 1 f fd ["self"] (spIterT K C (IsTies K C)) := by
  refine fnS_ok F sc_Net_iter (fun n vs H Q E h => ?_) (fun cdv A outer s H vs Q E hr h => ?_)
  · obtain ⟨a, t, xs, rfl, _⟩ := h
    rfl
  obtain ⟨a, t, xs, rfl, ⟨dx, fs, ha, hl⟩, hS, q⟩ := h
  refine ⟨_, (pss_one (ps_ret (pe_callB call_iterT (by rfl) B.iter_ (by decide +kernel) (pa_cons (pe_fld (pv 0) rfl) pa_nil)))), ?_⟩
  exact ⟨.ref a, rfl, a, C, dx, fs, _, rfl, ha, T.cl, T.nT, hl, t, xs, rfl, hS, q⟩
end
end K7

set_option Elab.async false
set_option linter.all false
set_option maxRecDepth 100000
set_option maxHeartbeats 1000000
/-! Nu: names in their order; comprehensions over the keys of a locked dict. -/
namespace Gd
open PySem PySem.Spec PyProof.Rows L2
theorem cps_tot : ∀ x y : List Nat, ltCps x y = false → ltCps y x = false → x = y
  | [], [], _, _ => rfl
  | [], _ :: _, h, _ => by cases h
  | _ :: _, [], _, h => by cases h
  | a :: r, b :: t, h1, h2 => by
    rw [ltCps, Bool.or_eq_false_iff, decide_eq_false_iff_not] at h1 h2
    have e : a = b := by omega
    subst e
    rw [beq_self_eq_true, Bool.true_and] at h1 h2
    rw [cps_tot r t h1.2 h2.2]
theorem cps_tr : ∀ x y z : List Nat, ltCps y x = false → ltCps z y = false → ltCps z x = false
  | [], _, [], _, _ => rfl
  | [], _, _ :: _, _, _ => rfl
  | _ :: _, [], _, h, _ => by cases h
  | _ :: _, _ :: _, [], _, h => by cases h
  | a :: r, b :: t, c :: u, h1, h2 => by
    rw [ltCps, Bool.or_eq_false_iff, decide_eq_false_iff_not] at h1 h2
    rw [ltCps, Bool.or_eq_false_iff, decide_eq_false_iff_not]
    refine ⟨by omega, ?_⟩
    by_cases e : c = a
    · subst e
      have e2 : b = c := by omega
      subst e2
      rw [beq_self_eq_true, Bool.true_and] at h1 h2 ⊢
      exact cps_tr r t u h1.2 h2.2
    · rw [beq_eq_false_iff_ne.mpr e, Bool.false_and]
theorem rising_pw : ∀ (l : List Str) (p : Str), risingS p l = true → (p :: l).Pairwise fun x y => ltCps y.cps.toList x.cps.toList = false
  | [], p, _ => List.pairwise_singleton _ _
  | x :: r, p, h => by
    rw [risingS, Bool.and_eq_true, Bool.not_eq_true'] at h
    have ih := rising_pw r x h.2
    refine List.pairwise_cons.mpr ⟨fun y hy => ?_, ih⟩
    rcases List.mem_cons.mp hy with e | hy
    · rw [e]
      exact h.1
    · exact cps_tr _ _ _ h.1 ((List.pairwise_cons.mp ih).1 y hy)
theorem sorted_pw {l : List Str} (h : sortedS l = true) : l.Pairwise fun x y => ltCps y.cps.toList x.cps.toList = false := by
  cases l with
  | nil => exact List.Pairwise.nil
  | cons x r => exact rising_pw r x h
theorem str_of_cps {x y : Str} (h : x.cps.toList = y.cps.toList) : x = y := by
  obtain ⟨⟨a⟩⟩ := x
  obtain ⟨⟨b⟩⟩ := y
  have h : a = b := h
  rw [h]
theorem names_uniq {xs ys : List Str} (p : xs.Perm ys) (h1 : sortedS xs = true) (h2 : sortedS ys = true) : xs = ys :=
  List.Perm.eq_of_pairwise (le := fun x y => ltCps y.cps.toList x.cps.toList = false) (fun a b _ _ h h' => str_of_cps (cps_tot _ _ h' h)) (sorted_pw h1) (sorted_pw h2) p
/-- over the keys of a locked dict -/
theorem lc_keysG {d : Addr} {o : Obj} {kvs : List (Key × V)} {g : TG} {tt : TT} {te : TE} {vs : List Nat} {σ : L2.St} {H1 : Hp} {D : Addr} {Qd : Hp → Prop} (Ok : Hp → Prop) (Acc : Nat → List V → Prop) (hS : ∀ H, Ok H → H d = some (.frz o (.dK kvs)))
    (h0 : Ok (upd H1 D (.lst []))) (z0 : Acc 0 [])
    (hs : ∀ i k v H, kvs[i]? = some (k, v) → Nx Ok D Acc i H → g (kV k) (wipe σ vs) H fun σ2 H2 => wipe σ2 vs = wipe σ vs ∧ tt σ2 H2 fun b H3 =>
      if b = true then te σ2 H3 fun y H4 => ∃ acc, H4 D = some (.lst acc) ∧ acc.length < sizeLine ∧ Nx Ok D Acc (i + 1) (upd H4 D (.lst (acc ++ [y]))) else Nx Ok D Acc (i + 1) H3)
    (hd : ∀ H acc, Ok H → H D = some (.lst acc) → Acc kvs.length acc → Qd H) :
    ∃ W : Nat → Nat → Hp → Prop, (∃ m, W 0 m (upd H1 D (.lst []))) ∧ ∀ i m H, W i m H →
      ((Itk d o kvs).stop i H ∧ Qd H) ∨ ((Itk d o kvs).go i H ∧ ∃ N : Hp → Prop, (∀ H', N H' → ∃ m', m' < m ∧ W (i + 1) m' H') ∧ ∀ v H', (Itk d o kvs).yld i H v H' → g v (wipe σ vs) H' fun σ2 H2 => wipe σ2 vs = wipe σ vs ∧ tt σ2 H2 fun b H3 =>
        if b = true then te σ2 H3 fun y H4 => ∃ acc, H4 D = some (.lst acc) ∧ acc.length < sizeLine ∧ N (upd H4 D (.lst (acc ++ [y]))) else N H3) :=
  lc_any (J := Itk d o kvs) (n := kvs.length) Ok Acc (fun i v _ => ∃ k x, kvs[i]? = some (k, x) ∧ v = kV k) h0 z0
    (fun i H hi ⟨acc, ok, _⟩ => ⟨hS H ok, hi⟩)
    (fun H ⟨acc, ok, _⟩ => ⟨hS H ok, Nat.le_refl _⟩)
    (fun i H v H' hi nx ⟨e, f⟩ => by
      subst e
      exact ⟨nx, f⟩)
    (fun i v H hi nx ⟨k, x, hx, e⟩ => by
      subst e
      exact hs i k x H hx nx) hd
end Gd

set_option Elab.async false
set_option linter.all false
set_option maxRecDepth 100000
set_option maxHeartbeats 1000000
/-! Ye: names and text of a net; belongs. -/
namespace K7
open PySem PySem.Spec PyProof.Rows L2 Gd
theorem nodup_sorted_uniq {xs ys : List Str} (n1 : xs.Nodup) (n2 : ys.Nodup) (s1 : sortedS xs = true) (s2 : sortedS ys = true) (m : ∀ x, x ∈ xs ↔ x ∈ ys) : xs = ys :=
  names_uniq ((List.perm_ext_iff_of_nodup n1 n2).mpr m) s1 s2
/-- a property of the class that keeps its promise -/
structure HasP (P : Program) (w : World) (K : PySem.W.Frag) (mg : Str → Option Value) (base : Heap) (C : Addr) (k : Nat) (f : Str) (sp : Sp) : Prop where
  ex : ∃ (p g : Addr) (fd : FuncData), PropOf K C f p g ∧ FnOk P w K mg base CX0 k g fd ["self"] sp ∧ Binds K fd ["self"] []
structure HasG (P : Program) (w : World) (K : PySem.W.Frag) (mg : Str → Option Value) (base : Heap) (k : Nat) (x : Str) (ps : List Str) (sp : Sp) : Prop where
  ex : ∃ (f : Addr) (fd : FuncData), FnG P w K mg base CX0 k f fd ps sp ∧ mg x = some (.ref f) ∧ PySem.W.keepIn K (.ref f) = true ∧ Binds K fd ps []
theorem strs_take : ∀ (qs : List Pr) (i : Nat) (q : Pr), qs[i]? = some q → ((qs.take i).map Prod.fst).map V.str ++ [V.str q.1] = ((qs.take (i + 1)).map Prod.fst).map V.str := fun qs i q h => by
  rw [List.take_add_one, h, List.map_append, List.map_append]
  rfl
section
variable {P : Program} {w : World} {K : PySem.W.Frag} {mg : Str → Option Value} {base : Heap} {C D : Addr}
def spNmsN (K : PySem.W.Frag) (C : Addr) : Sp := fun vs H Q _ => ∃ (a t : Addr) (n : Nat) (qs : List Pr), vs = [.ref a] ∧ NetAt K H C a n t qs ∧ qs.length ≤ 20 ∧ ∀ G l ys, Same H G → G l = some (.tup (ys.map V.str)) → ys.Nodup → sortedS ys = true → (∀ x, x ∈ ys ↔ x ∈ qs.map Prod.fst) → ys.length ≤ qs.length → Q (.ref l) G
theorem ok_nnames {f : Addr} {fd : FuncData} (F : Fun K "names" "Net.names" s_Net_names f fd) (B : Blt mg) (T : Bn K mg C) : FnOk P w K mg base CX0 1 f fd ["self"] (spNmsN K C) := by
  refine F.ok sc_Net_names (fun vs H Q E h => ?_) (fun cdv A outer s H vs Q E hr h => ?_)
  · obtain ⟨a, t, n, qs, rfl, _⟩ := h
    rfl
  obtain ⟨a, t, n, qs, rfl, ⟨⟨dx, ha⟩, ts, hS, hq⟩, few, q⟩ := h
  refine ⟨_, (pss_one (ps_ret (pe_callTy call_tuple_of (by rfl) B.tuple_ (by decide +kernel) (pa_cons (pe_callB (call_sortS rfl) (by rfl) B.sorted_ (by decide +kernel) (pa_cons (pe_callTy (call_setS rfl) (by rfl) B.set_ (by decide +kernel) (pa_cons (pe_lc (own := [("name", 1), ("unknowns", 2)]) (g := gTup K 2 (gCons (gName 1) (gCons (gName 2) gNil))) (tt := tYes) rfl sc_Net_names.nd (pi_tup (pe_fld (pv 0) rfl)) (blkOk_by (own := [("name", 1), ("unknowns", 2)]) (N := nm_Net_names) (sc := defScope s_Net_names) (by decide +kernel)) (fun _ _ _ _ _ => (pg_tup rfl (pgs_cons (pg_name (i := 1) sc_Net_names.nd rfl (.inl rfl)) (pgs_cons (pg_name (i := 2) sc_Net_names.nd rfl (.inl rfl)) pgs_nil)))) (fun _ _ _ _ _ => pts_nil) (fun _ _ _ _ _ => (pv 1))) pa_nil)) pa_nil)) pa_nil)))), ?_⟩
  have hl := hq.len
  refine ⟨.ref a, rfl, a, C, dx, _, _, rfl, ha, T.cl, T.nT, nf_ties _ _, t, rfl, ⟨ts, hS⟩, fun D nD => ?_⟩
  refine lc_tupG (xs := ts) (Same H) (fun i acc => acc = ((qs.take i).map Prod.fst).map V.str) (fun G z => z.tupS hS) (Same.newG nD) rfl (fun i v G hi nx hv => ?_) (fun G acc sm eD ea => ?_)
  · obtain ⟨acc, sm, eD, ea⟩ := nx
    obtain ⟨q', eq', pq⟩ := hq.get hv
    obtain ⟨a1, b1, rfl, h1, h2⟩ := pq.mv (SameN.of sm).keepT
    refine ⟨a1, _, rfl, h1, rfl, _, _, rfl, _, _, rfl, rfl, rfl, tyes ⟨_, rfl, nx_put (fun F o z => z.upG nD) sm eD ?_ ?_⟩⟩
    · rw [ea, List.length_map, List.length_map, List.length_take]
      omega
    · rw [ea]
      exact strs_take qs i q' eq'
  have ea : acc = ((qs.take ts.length).map Prod.fst).map V.str := ea
  rw [hl, List.take_length] at ea
  subst ea
  have sm : Same H G := sm
  refine ⟨D, qs.map Prod.fst, rfl, SqL.of eD, by rw [List.length_map]; omega, fun p np => ⟨p, _, _, rfl, upd_same, by rw [List.length_map]; omega, fun ys p2 nd srt mem len np2 => ⟨p2, _, rfl, .inl ⟨SqL.of upd_same, fun l nl => ?_⟩⟩⟩⟩
  refine q _ l ys ((sm.trans (Same.newG np)).trans ((Same.newG np2).trans (Same.newG nl))) upd_same nd srt mem (by rw [List.length_map] at len; exact len)
theorem txt_more : ∀ n : Nat, n ≤ 60 → (toString (n : Int) : Str).length ≤ 2 := by
  have z : ((List.range 61).all fun n => decide ((toString (n : Int) : Str).length ≤ 2)) = true := by decide +kernel
  exact fun n h => of_decide_eq_true (List.all_eq_true.mp z n (List.mem_range.mpr (by omega)))
def spStrN (K : PySem.W.Frag) (C : Addr) : Sp := fun vs H Q _ => ∃ (a t : Addr) (n : Nat) (qs : List Pr), vs = [.ref a] ∧ NetAt K H C a n t qs ∧ n ≤ 60 ∧ qs.length ≤ 20 ∧ ∀ z : Str, z.length ≤ 1000 → Q (.str z) H
theorem ok_nstr {f : Addr} {fd : FuncData} (F : Fun K "__str__" "Net.__str__" s_Net_str f fd) (B : Blt mg) (T : Bn K mg C) : FnOk P w K mg base CX0 1 f fd ["self"] (spStrN K C) := by
  refine F.ok sc_Net_str (fun vs H Q E h => ?_) (fun cdv A outer s H vs Q E hr h => ?_)
  · obtain ⟨a, t, n, qs, rfl, _⟩ := h
    rfl
  obtain ⟨a, t, n, qs, rfl, ⟨⟨dx, ha⟩, ts, hS, hq⟩, hn, hp, qq⟩ := h
  refine ⟨_, (pss_one (ps_ret (pe_joined (.cons pe_str (.cons (pe_fmt (pe_fld (pv 0) rfl)) (.cons pe_str (.cons (pe_fmt (pe_callB call_len_seq (by rfl) B.len_ (by decide +kernel) (pa_cons (pe_fld (pv 0) rfl) pa_nil))) (.cons pe_str .nil)))))))), ?_⟩
  have big : ∀ n : Nat, n ≤ 1000 → n ≤ sizeLine := fun n h => Nat.le_of_lt (small1000 h)
  have l1 := txt_more n hn
  have l2 := txt_more qs.length (by omega)
  have hl : ts.length = qs.length := hq.len
  have e0 : Str.empty.length = 0 := rfl
  have e1 : (Str.ofString "net of ").length = 7 := rfl
  have e2 : (Str.ofString " unknowns, ").length = 11 := rfl
  have e3 : (Str.ofString " ties").length = 5 := rfl
  refine ⟨_, rfl, big _ (by decide +kernel), .ref a, rfl, a, C, dx, _, _, rfl, ha, T.cl, T.nS, nf_size _ _, .inr ⟨_, rfl, log_few (by omega), _, rfl, big _ ?_, _, rfl, big _ ?_, .ref a, rfl, a, C, dx, _, _, rfl, ha, T.cl, T.nT, nf_ties _ _, t, ts, rfl, .inr hS, .inr ⟨_, rfl, log_few (by omega), _, rfl, big _ ?_, _, rfl, big _ ?_, ?_⟩⟩⟩
  rotate_left 4
  · refine qq _ ?_
    simp only [add_len, hl]
    omega
  all_goals
    simp only [add_len, hl]
    omega
def spChB (K : PySem.W.Frag) (C : Addr) : Sp := fun vs H Q _ => ∃ (a dx : Addr) (fs : List (Str × V)), vs = [.ref a] ∧ H a = some (.ins C dx fs) ∧ Q .non H
theorem ok_check_book {f : Addr} {fd : FuncData} (F : Fun K "check_book" "check_book" s_check_book f fd) (B : Blt mg) (T : Bk K mg C) : FnOk P w K mg base CX0 1 f fd ["book"] (spChB K C) := by
  refine F.ok sc_check_book (fun vs H Q E h => ?_) (fun cdv A outer s H vs Q E hr h => ?_)
  · obtain ⟨a, dx, fs, rfl, _⟩ := h
    rfl
  obtain ⟨a, dx, fs, rfl, ha, q⟩ := h
  refine ⟨_, (pss_one (ps_if (pt_not (pt_val (pe_callB call_isi (by rfl) B.isinstance_ (by decide +kernel) (pa_cons (pv 0) (pa_cons (pe_glob (v := .ref C) rfl T.mgC rfl) pa_nil))))) (pss_one ps_never) pss_nil)), ?_⟩
  exact ⟨.ref a, rfl, .ref a, .ref C, .ref C, _, true, rfl, .own C, T.tyX ha, kit_self, _, rfl, iteF q⟩
theorem ok_check_net {f : Addr} {fd : FuncData} (F : Fun K "check_net" "check_net" s_check_net f fd) (B : Blt mg) (N : Bn K mg D) : FnOk P w K mg base CX0 1 f fd ["net"] (spChB K D) := by
  refine F.ok sc_check_net (fun vs H Q E h => ?_) (fun cdv A outer s H vs Q E hr h => ?_)
  · obtain ⟨a, dx, fs, rfl, _⟩ := h
    rfl
  obtain ⟨a, dx, fs, rfl, ha, q⟩ := h
  refine ⟨_, (pss_one (ps_if (pt_not (pt_val (pe_callB call_isi (by rfl) B.isinstance_ (by decide +kernel) (pa_cons (pv 0) (pa_cons (pe_glob (v := .ref D) rfl N.mgC rfl) pa_nil))))) (pss_one ps_never) pss_nil)), ?_⟩
  exact ⟨.ref a, rfl, .ref a, .ref D, .ref D, _, true, rfl, .own D, N.tyX ha, kit_self, _, rfl, iteF q⟩
theorem valV_names {f : Str → V} (y : Str) : ∀ ns : List Str, valV (ns.map fun x => ((.inr x : Key), f x)) (.inr y) = if y ∈ ns then some (f y) else none
  | [] => rfl
  | x :: ns => by
    have ih := valV_names (f := f) y ns
    unfold valV at ih ⊢
    by_cases e : x = y
    · subst e
      rw [if_pos List.mem_cons_self]
      simp [List.find?_cons]
    · have ne : ¬ (Sum.inr x : Key) = Sum.inr y := fun z => e (Sum.inr.inj z)
      rw [List.map_cons, List.find?_cons]
      rw [decide_eq_false ne]
      have em : (y ∈ x :: ns) ↔ y ∈ ns := by
        rw [List.mem_cons]
        exact ⟨fun z => z.elim (fun z => absurd z.symm e) id, .inr⟩
      rw [ih]
      by_cases m : y ∈ ns
      · rw [if_pos m, if_pos (em.mpr m)]
      · rw [if_neg m, if_neg fun z => m (em.mp z)]
def rLenS (K : PySem.W.Frag) : List V → Hp → VK → Prop := fun xs H Q => ∃ p ys, xs = [.ref p] ∧ (SqL K H p ys ∨ SqT K H p ys) ∧ Q (.int (ys.length : Int)) H
def belB (ps : List (Str × Tie)) (qs : List Pr) : Bool := qs.all fun q => decide ((lookT ps q.1).map Prod.fst = some q.2.length)
/-- C the books, D the nets -/
def spBel (K : PySem.W.Frag) (C D : Addr) : Sp := fun vs H Q _ => ∃ (b dT : Addr) (m : Nat) (ps : List (Str × Tie)) (a t : Addr) (n : Nat) (qs : List Pr), vs = [.ref b, .ref a] ∧ BookAt K H C b m ps dT ∧ ps.length ≤ 8 ∧ (∀ q ∈ ps, q.1.length ≤ 1000) ∧ NetAt K H D a n t qs ∧ qs.length ≤ 20 ∧ (∀ q ∈ qs, q.1.length ≤ 1000) ∧ ∀ G, Same H G → Q (.bl (belB ps qs)) G
theorem ok_does_belong {f : Addr} {fd : FuncData} (F : Fun K "does_belong" "does_belong" s_does_belong f fd) (B : Blt mg) (T : Bk K mg C) (N : Bn K mg D) (C1 : HasP P w K mg base C 1 "names" (getSp C "_names")) (C2 : HasM P w K mg base C 2 "places" ["self", "name"] (spPlaces K C)) (C3 : HasP P w K mg base D 1 "ties" (getSp D "_ties")) : FnOk P w K mg base CX0 4 f fd ["book", "net"] (spBel K C D) := by
  obtain ⟨p1, g1, fd1, Pr_names, G_names, b_names⟩ := C1.ex
  obtain ⟨f2, fd2, G_places, D_places, M_places, b_places⟩ := C2.ex
  obtain ⟨p3, g3, fd3, Pr_ties, G_ties, b_ties⟩ := C3.ex
  refine F.ok sc_does_belong (fun vs H Q E h => ?_) (fun cdv A outer s H vs Q E hr h => ?_)
  · obtain ⟨b, dT, m, ps, a, t, n, qs, rfl, _⟩ := h
    rfl
  obtain ⟨b, dT, m, ps, a, t, n, qs, rfl, hb, pl, pn, hn, ql, qn, q⟩ := h
  refine ⟨_, (pss_cons (ps_set (i := 2) sc_does_belong.nd rfl (.inr rfl) (pe_dc (own := [("name", 3)]) (g := gName 3) (tt := tYes) rfl sc_does_belong.nd (pi_tup (pe_prop (pv 0) T.cl Pr_names G_names (hr.mono (by decide)) b_names .nil pass0 rfl)) (blkOk_by (own := [("name", 3)]) (N := nm_does_belong) (sc := defScope s_does_belong) (by decide +kernel)) (fun _ _ _ _ _ => (pg_name (i := 3) sc_does_belong.nd rfl (.inl rfl))) (fun _ _ _ _ _ => pts_nil) (fun _ _ _ _ _ => (pv 3)) (fun _ _ _ _ _ => (pe_meth (pv 0) T.cl M_places G_places (hr.mono (by decide)) b_places .nil pass0 (pa_cons (pv 3) pa_nil)))))
  (pss_one (ps_ret (pe_callB (cr_all rfl) (by rfl) B.all_ (by decide +kernel) (pa_cons (pe_lc (own := [("name", 3), ("unknowns", 4)]) (g := gTup K 2 (gCons (gName 3) (gCons (gName 4) gNil))) (tt := tYes) (te := tOp rEq (tDGet1 (tVar 2) (tVar 3)) (tCB (rLenS K) (tCons (tVar 4) tNil))) rfl sc_does_belong.nd (pi_tup (pe_prop (pv 1) N.cl Pr_ties G_ties (hr.mono (by decide)) b_ties .nil pass0 rfl)) (blkOk_by (own := [("name", 3), ("unknowns", 4)]) (N := nm_does_belong) (sc := defScope s_does_belong) (by decide +kernel)) (fun _ _ _ _ _ => (pg_tup rfl (pgs_cons (pg_name (i := 3) sc_does_belong.nd rfl (.inl rfl)) (pgs_cons (pg_name (i := 4) sc_does_belong.nd rfl (.inl rfl)) pgs_nil)))) (fun _ _ _ _ _ => pts_nil) (fun _ _ _ _ _ => (pe_cmpR op_eq (pe_dget1 (hu_of hr) (pv 2) (pv 3) (⟨by rfl, by rfl, by rfl, by rfl⟩)) (pe_callB call_len_seq (by rfl) B.len_ (by decide +kernel) (pa_cons (pv 4) pa_nil)) (nomark _)))) pa_nil))))), ?_⟩
  obtain ⟨dx, tN, tS, kvs, ha, hN, hT, hSs⟩ := id hb.ex
  obtain ⟨⟨dx2, ha2⟩, ts, hS, hq⟩ := id hn
  have hl := hq.len
  have nd : (ps.map Prod.fst).Nodup := hb.nd
  have pl2 : (ps.map Prod.fst).length ≤ 8 := by rw [List.length_map]; exact pl
  refine ⟨.ref b, rfl, b, dx, _, rfl, ha, b, dx, _, _, rfl, ha, bf_names _ _ _ _, tN, rfl, ⟨_, hN⟩, fun E0 nE => ?_⟩
  refine dc_tup (xs := (ps.map Prod.fst).map V.str) (fun i G => Same H G ∧ G E0 = some (.dK (((ps.map Prod.fst).take i).map fun x => ((.inr x : Key), V.int ((lookT ps x).getD (0, [])).1)))) ⟨Same.newG nE, upd_same⟩ (fun i G _ z => z.1.tupS hN) (fun i y G hy z => ?_) (fun G z => ?_)
  · obtain ⟨sG, eE⟩ := z
    rw [List.getElem?_map] at hy
    obtain ⟨x, hx, rfl⟩ := Option.map_eq_some_iff.mp hy
    have hm : x ∈ ps.map Prod.fst := List.mem_of_getElem? hx
    obtain ⟨q', hq'⟩ : ∃ q', lookT ps x = some q' := by
      cases e : lookT ps x with
      | none => exact absurd hm (lookT_none.mp e)
      | some q' => exact ⟨q', rfl⟩
    have xl : x.length ≤ 1000 := pn _ (lookT_some hq')
    have fresh : valV (((ps.map Prod.fst).take i).map fun x => ((.inr x : Key), V.int ((lookT ps x).getD (0, [])).1)) (.inr x) = none := by
      have hn : x ∉ (ps.map Prod.fst).take i := fun z => by
        obtain ⟨j, hj⟩ := List.mem_iff_getElem?.mp z
        have hji : j < i := by
          have := (List.getElem?_eq_some_iff.mp hj).1
          rw [List.length_take] at this
          omega
        rw [List.getElem?_take_of_lt hji] at hj
        have hi' := (List.getElem?_eq_some_iff.mp hx)
        have hj' := (List.getElem?_eq_some_iff.mp hj)
        have := (List.getElem_inj nd).mp (hj'.2.trans hi'.2.symm)
        omega
      unfold valV
      rw [List.find?_eq_none.mpr]
      · rfl
      · intro kv hkv
        obtain ⟨z, hz, rfl⟩ := List.mem_map.mp hkv
        simp only [decide_eq_true_eq]
        exact fun e => hn (by cases e; exact hz)
    refine ⟨rfl, tyes ⟨_, rfl, .ref b, rfl, b, dx, _, rfl, sG _ _ ha, bf_places _ _ _ _, .str x, rfl, b, dT, m, ps, x, q', rfl, hb.sameN (SameN.of sG), xl, hq', _, .inr x, rfl, eE, small1000 (by rw [List.length_map, List.length_take]; omega), sG.upG nE, ?_⟩⟩
    rw [upd_same, putK_new _ fresh, List.take_add_one, hx, List.map_append]
    show some (HO.dK (_ ++ [(Sum.inr x, V.int q'.1)])) = some (HO.dK (_ ++ [(Sum.inr x, V.int ((lookT ps x).getD (0, [])).1)]))
    rw [hq']
    rfl
  · obtain ⟨sG, eE⟩ := z
    rw [List.length_map, List.take_length] at eE
    have eE : G E0 = some (.dK ((ps.map Prod.fst).map fun x => ((.inr x : Key), V.int ((lookT ps x).getD (0, [])).1))) := eE
    refine ⟨.ref a, rfl, a, dx2, _, rfl, sG _ _ ha2, a, dx2, _, _, rfl, sG _ _ ha2, nf_ties _ _, t, rfl, ⟨ts, sG.tupS hS⟩, fun D1 nD => ?_⟩
    refine lc_tupG (xs := ts) (Same G) (fun i acc => acc = ((qs.take i).map fun q => decide ((lookT ps q.1).map Prod.fst = some q.2.length)).map V.bl) (fun G2 z => z.tupS (sG.tupS hS)) (Same.newG nD) rfl (fun i v G2 hi nx hv => ?_) (fun G2 acc sm eD ea => ?_)
    · obtain ⟨acc, sm, eD, ea⟩ := nx
      obtain ⟨q', eq', pq⟩ := hq.get hv
      obtain ⟨a1, b1, rfl, h1, h2⟩ := pq.mv (SameN.of (Same.trans sG sm)).keepT
      refine ⟨a1, _, rfl, h1, rfl, _, _, rfl, _, _, rfl, rfl, rfl, tyes ⟨.ref E0, rfl, E0, rfl, .inl ⟨_, .inl (sm _ _ eE)⟩, .str q'.1, rfl, _, DGet.k (k := (Sum.inr q'.1 : Key)) (sm _ _ eE), .ref b1, rfl, b1, _, rfl, .inr h2, ?_⟩⟩
      have ev : valV ((ps.map Prod.fst).map fun x => ((.inr x : Key), V.int ((lookT ps x).getD (0, [])).1)) (.inr q'.1) = (lookT ps q'.1).map fun z => V.int z.1 := by
        rw [valV_names]
        cases e : lookT ps q'.1 with
        | none => rw [if_neg (lookT_none.mp e)]; rfl
        | some z =>
          have m : q'.1 ∈ ps.map Prod.fst := by
            cases e2 : decide (q'.1 ∈ ps.map Prod.fst) with
            | true => exact of_decide_eq_true e2
            | false =>
              rw [lookT_none.mpr (of_decide_eq_false e2)] at e
              cases e
          rw [if_pos m]
          rfl
      rw [ev]
      have fin : ∀ b : Bool, b = decide ((lookT ps q'.1).map Prod.fst = some q'.2.length) → ∃ acc_1, G2 D1 = some (.lst acc_1) ∧ acc_1.length < sizeLine ∧ Nx (Same G) D1 (fun i acc => acc = ((qs.take i).map fun q => decide ((lookT ps q.1).map Prod.fst = some q.2.length)).map V.bl) (i + 1) (upd G2 D1 (.lst (acc_1 ++ [.bl b]))) := fun b e => by
        refine nx_put (fun F o z => z.upG nD) sm eD ?_ ?_
        · rw [ea, List.length_map, List.length_map, List.length_take]
          omega
        · rw [ea, List.take_add_one, eq', List.map_append, List.map_append, e]
          rfl
      have el : (((q'.2.map V.int).length : Nat) : Int) = (q'.2.length : Int) := by rw [List.length_map]
      rw [el]
      cases e : lookT ps q'.1 with
      | none =>
        refine ⟨rfl, fin _ ?_⟩
        rw [e]
        exact (decide_eq_false (by intro z; cases z)).trans (decide_eq_false (by intro z; cases z)).symm
      | some z =>
        refine ⟨rfl, fin _ ?_⟩
        rw [e]
        refine decide_eq_decide.mpr ⟨fun h => ?_, fun h => ?_⟩
        · have h : (z.1 : Int) = (q'.2.length : Int) := V.int.inj h
          show some z.1 = some q'.2.length
          congr 1
          omega
        · have h : z.1 = q'.2.length := Option.some.inj h
          show V.int (z.1 : Int) = V.int (q'.2.length : Int)
          rw [h]
    · have ea : acc = ((qs.take ts.length).map fun q => decide ((lookT ps q.1).map Prod.fst = some q.2.length)).map V.bl := ea
      rw [hl, List.take_length] at ea
      subst ea
      refine ⟨D1, qs.map fun q => decide ((lookT ps q.1).map Prod.fst = some q.2.length), rfl, .inl (.inl eD), ?_⟩
      have e : (qs.map fun q => decide ((lookT ps q.1).map Prod.fst = some q.2.length)).all id = belB ps qs := by
        rw [List.all_map]
        rfl
      rw [e]
      exact q _ (Same.trans sG sm)
theorem ok_belongs {f : Addr} {fd : FuncData} (F : Fun K "belongs" "belongs" s_belongs f fd) (C1 : Has P w K mg base 1 "check_book" ["book"] (spChB K C)) (C2 : Has P w K mg base 1 "check_net" ["net"] (spChB K D)) (C3 : Has P w K mg base 4 "does_belong" ["book", "net"] (spBel K C D)) : FnOk P w K mg base CX0 5 f fd ["book", "net"] (spBel K C D) := by
  obtain ⟨f1, fd1, G_check_book, g_check_book, k_check_book, b_check_book⟩ := C1.ex
  obtain ⟨f2, fd2, G_check_net, g_check_net, k_check_net, b_check_net⟩ := C2.ex
  obtain ⟨f3, fd3, G_does_belong, g_does_belong, k_does_belong, b_does_belong⟩ := C3.ex
  refine F.ok sc_belongs (fun vs H Q E h => ?_) (fun cdv A outer s H vs Q E hr h => ?_)
  · obtain ⟨b, dT, m, ps, a, t, n, qs, rfl, _⟩ := h
    rfl
  obtain ⟨b, dT, m, ps, a, t, n, qs, rfl, hb, pl, pn, hn, ql, qn, q⟩ := h
  refine ⟨_, (pss_cons (ps_expr (pe_call G_check_book (hr.mono (by decide)) (by rfl) g_check_book k_check_book b_check_book .nil pass0 (pa_cons (pv 0) pa_nil)))
  (pss_cons (ps_expr (pe_call G_check_net (hr.mono (by decide)) (by rfl) g_check_net k_check_net b_check_net .nil pass0 (pa_cons (pv 1) pa_nil)))
  (pss_one (ps_ret (pe_call G_does_belong (hr.mono (by decide)) (by rfl) g_does_belong k_does_belong b_does_belong .nil pass0 (pa_cons (pv 0) (pa_cons (pv 1) pa_nil))))))), ?_⟩
  obtain ⟨dx, _, _, _, ha, _⟩ := id hb.ex
  obtain ⟨⟨dx2, ha2⟩, _⟩ := id hn
  exact ⟨.ref b, rfl, b, dx, _, rfl, ha, .ref a, rfl, a, dx2, _, rfl, ha2, .ref b, rfl, .ref a, rfl, b, dT, m, ps, a, t, n, qs, rfl, hb, pl, pn, hn, ql, qn, q⟩
end
end K7

set_option Elab.async false
set_option linter.all false
set_option maxRecDepth 100000
set_option maxHeartbeats 1000000
/-! Yf: _law_made_net, _law_wide_net. -/
namespace K7
open PySem PySem.Spec PyProof.Rows L2 Gd SrtO
def pl (n : Int) (d : Addr) : List (Key × V) := [(.inr ("size" : Str), .int n), (.inr ("ties" : Str), .ref d)]
theorem pl_merge (n : Int) (d : Addr) : mergeK [] (pl n d) = pl n d := by kernel_rfl
theorem pl_size (n : Int) (d : Addr) : valV (pl n d) (.inr ("size" : Str)) = some (.int n) := by kernel_rfl
theorem pl_ties (n : Int) (d : Addr) : valV (pl n d) (.inr ("ties" : Str)) = some (.ref d) := by kernel_rfl
theorem dget_size {H : Hp} {p d : Addr} {n : Int} (e : Rd H p (.dK (pl n d))) : DGet H p (.str "size") (some (.int n)) := by
  have z : DGet H p (kV (.inr ("size" : Str))) (valV (pl n d) (.inr ("size" : Str))) := .inl ⟨_, _, e, rfl, rfl⟩
  rw [pl_size] at z
  exact z
theorem dget_ties {H : Hp} {p d : Addr} {n : Int} (e : Rd H p (.dK (pl n d))) : DGet H p (.str "ties") (some (.ref d)) := by
  have z : DGet H p (kV (.inr ("ties" : Str))) (valV (pl n d) (.inr ("ties" : Str))) := .inl ⟨_, _, e, rfl, rfl⟩
  rw [pl_ties] at z
  exact z
/-- a plain net; its names are among at most four -/
structure PlnAt (K : PySem.W.Frag) (H : Hp) (p t : Addr) (n : Nat) (qs : List Pr) : Prop where
  at_ : H p = some (.dK (pl n t))
  ts : TsAt K H t qs
  ok : OkN n qs
  four : ∃ ns : List Str, ns.length ≤ 4 ∧ ∀ q ∈ qs, q.1 ∈ ns
theorem PlnAt.same {K : PySem.W.Frag} {H G : Hp} {p t : Addr} {n : Nat} {qs : List Pr} (h : PlnAt K H p t n qs) (s : SameN H G) : PlnAt K G p t n qs :=
  ⟨s _ _ h.at_ (fun _ z => nomatch z), h.ts.mv s.keepT, h.ok, h.four⟩
theorem _root_.K7.But.keepT {k : Addr} {H G : Hp} (b : But k H G) (h : Sack H k) : KeepT H G := fun c xs => ⟨fun e => b.stay c _ (fun z => by
    obtain ⟨_, _, _, w, _⟩ := h
    rw [z, w] at e
    cases e) e, fun o e => b.stay c _ (fun z => by
    obtain ⟨_, _, _, w, _⟩ := h
    rw [z, w] at e
    cases e) e⟩
theorem _root_.K7.But.sameN {k : Addr} {H G : Hp} (b : But k H G) (h : Sack H k) : SameN H G := fun c o e n => b.stay c o (fun z => by
    obtain ⟨_, _, _, w, _⟩ := h
    rw [z, w] at e
    cases e
    exact n _ rfl) e
theorem PlnAt.but {K : PySem.W.Frag} {H G : Hp} {k p t : Addr} {n : Nat} {qs : List Pr} (h : PlnAt K H p t n qs) (s : Sack H k) (b : But k H G) : PlnAt K G p t n qs := h.same (b.sameN s)
/-- the pair that stands at v -/
def pH (H : Hp) : V → Pr
  | .ref t => match H t with
    | some (.tup (.str x :: .ref b :: _)) => match H b with
      | some (.tup us) => (x, us.map fun u => match u with | .int i => i | _ => 0)
      | _ => (x, [])
    | _ => (Str.empty, [])
  | _ => (Str.empty, [])
structure KeyOk (n : Nat) (ns : List Str) (F : Hp) (p : PyData × Addr) (q : Pr) : Prop where
  dat : p.1 = prD q
  good : GoodP n q
  nm : q.1 ∈ ns
  at_ : ∃ b, F p.2 = some (.tup [.str q.1, .ref b]) ∧ F b = some (.tup (q.2.map V.int))
theorem KeyOk.pH {n : Nat} {ns : List Str} {F : Hp} {p : PyData × Addr} {q : Pr} (h : KeyOk n ns F p q) : K7.pH F (.ref p.2) = q := by
  obtain ⟨b, h1, h2⟩ := h.at_
  show (match F p.2 with
    | some (.tup (.str x :: .ref b :: _)) => match F b with
      | some (.tup us) => (x, us.map fun u => match u with | .int i => i | _ => 0)
      | _ => (x, [])
    | _ => (Str.empty, [])) = q
  rw [h1]
  show (match F b with
      | some (.tup us) => (q.1, us.map fun u => match u with | .int i => i | _ => 0)
      | _ => (q.1, [])) = q
  rw [h2]
  show (q.1, (q.2.map V.int).map fun u => match u with | .int i => i | _ => 0) = q
  rw [List.map_map]
  have e : ((fun u : V => match u with | .int i => i | _ => (0 : Int)) ∘ V.int) = id := rfl
  rw [e, List.map_id]
theorem KeyOk.prAt {K : PySem.W.Frag} {n : Nat} {ns : List Str} {F : Hp} {p : PyData × Addr} {q : Pr} (h : KeyOk n ns F p q) : PrAt K F (.ref p.2) q := by
  obtain ⟨b, h1, h2⟩ := h.at_
  exact ⟨p.2, b, rfl, .inl (.inl h1), .inl (.inl h2)⟩
theorem KeyOk.mv {n : Nat} {ns : List Str} {F G : Hp} {p : PyData × Addr} {q : Pr} (s : KeepT F G) (h : KeyOk n ns F p q) : KeyOk n ns G p q := by
  obtain ⟨b, h1, h2⟩ := h.at_
  exact ⟨h.dat, h.good, h.nm, b, (s _ _).1 h1, (s _ _).1 h2⟩
theorem KeyOk.key {K : PySem.W.Frag} {n : Nat} {ns : List Str} {F : Hp} {p : PyData × Addr} {q : Pr} (h : KeyOk n ns F p q) : NKey K F p := by
  have d := h.prAt (K := K)
  refine ⟨?_, ?_, ?_⟩
  · rw [h.dat]
    exact d.td.dp
  · rw [h.dat]
    exact on_pr q
  · rw [h.dat]
    exact depth_pr q
theorem swo_pr {α : Type} (f : α → Pr) : Swo fun x y => ltD (prD (f x)) (prD (f y)) := by
  refine ⟨fun x y h => ?_, fun x y z h1 h2 => ?_⟩
  · rw [lt_pr] at h ⊢
    exact ltQ_asym _ _ h
  · rw [lt_pr] at h1 h2 ⊢
    exact ltQ_tr _ _ _ h1 h2
theorem srt_of : ∀ {qs : List Pr}, (qs.Pairwise fun x y => ltQ y x = false) → qs.Nodup → SrtP qs
  | [], _, _ => List.Pairwise.nil
  | x :: qs, h, nd => by
    have h1 := List.pairwise_cons.mp h
    have n1 := List.nodup_cons.mp nd
    refine List.pairwise_cons.mpr ⟨fun y hy => ?_, srt_of h1.2 n1.2⟩
    cases e : ltQ x y with
    | true => rfl
    | false => exact absurd (ltQ_tot x y e (h1.1 y hy)) fun z => n1.1 (by rw [z]; exact hy)
theorem prs_all {K : PySem.W.Frag} {H : Hp} {f : V → Pr} : ∀ {vs : List V}, (∀ v ∈ vs, PrAt K H v (f v)) → PrsAt K H vs (vs.map f)
  | [], _ => .nil
  | v :: vs, h => .cons (h v List.mem_cons_self) (prs_all fun u hu => h u (List.mem_cons_of_mem _ hu))
section
variable {P : Program} {w : World} {K : PySem.W.Frag} {mg : Str → Option Value} {base : Heap} {C D : Addr}
def spMade (K : PySem.W.Frag) (D : Addr) : Sp := fun vs H Q _ => ∃ (p t : Addr) (n : Nat) (qs : List Pr), vs = [.ref p] ∧ PlnAt K H p t n qs ∧ ∀ G a, Same H G → NetAt K G D a n t qs → Q (.ref a) G
theorem ok_made_net {f fI : Addr} {fd fdI : FuncData} (F : Fun K "_law_made_net" "_law_made_net" s_made_net f fd) (N : Bn K mg D) (Mk_Net : Mk K D fI) (G_ninit : FnOk P w K mg base CX0 7 fI fdI ["self", "size", "ties"] (spNInit K D)) (b_ninit : Binds K fdI ["self", "size", "ties"] []) : FnOk P w K mg base CX0 9 f fd ["_law_net"] (spMade K D) := by
  refine F.ok sc_made_net (fun vs H Q E h => ?_) (fun cdv A outer s H vs Q E hr h => ?_)
  · obtain ⟨p, t, n, qs, rfl, _⟩ := h
    rfl
  obtain ⟨p, t, n, qs, rfl, hp, q⟩ := h
  refine ⟨_, (pss_one (ps_ret (pe_make Mk_Net G_ninit (hr.mono (by decide)) (by rfl) N.mgC b_ninit .nil pass0 (pa_cons (pe_dget (hu_of hr) (pv 0) pe_str (fun _ _ => rfl)) (pa_cons (pe_dget (hu_of hr) (pv 0) pe_str (fun _ _ => rfl)) pa_nil))))), ?_⟩
  refine ⟨.ref p, rfl, p, .int n, rfl, dget_size (.inl hp.at_), .ref p, rfl, p, .ref t, rfl, dget_ties (.inl hp.at_), ?_⟩
  intro a dx na ndx ne
  have s1 : Same H (upd (upd H dx (.own a)) a (.ins D dx [])) := by
    refine (Same.newG ndx).trans (Same.newG ?_)
    rw [upd_ne ne.symm]
    exact na
  have ea : (upd (upd H dx (.own a)) a (.ins D dx [])) a = some (.ins D dx []) := upd_same
  generalize upd (upd H dx (.own a)) a (.ins D dx []) = G1 at s1 ea ⊢
  refine ⟨a, dx, t, n, qs, rfl, ea, hp.ts.mv (SameN.of s1).keepT, hp.ok, fun G sx hn => ⟨rfl, q G a (fun b o e => ?_) hn⟩⟩
  refine sx b o (fun z => ?_) (s1 b o e)
  rw [z, na] at e
  cases e
def spWideN (K : PySem.W.Frag) : Sp := fun vs H Q _ => ∃ k : Addr, vs = [.ref k] ∧ Sack H k ∧ ∀ G p t n qs, But k H G → PlnAt K G p t n qs → Q (.ref p) G
theorem ok_wide_net {f : Addr} {fd : FuncData} (F : Fun K "_law_wide_net" "_law_wide_net" s_wide_net f fd) (B : Blt mg) (C1 : Has P w K mg base 1 "_law_grab" ["_law_sack_here", "_law_total"] spGrab) (C2 : Has P w K mg base 3 "_law_many_names" ["_law_sack_here", "_law_much"] spNames) (C3 : Has P w K mg base 2 "_law_one_of" ["_law_sack_here", "_law_items"] spOne) : FnOk P w K mg base CX0 4 f fd ["_law_sack_here"] (spWideN K) := by
  obtain ⟨f1, fd1, G_grab, g_grab, k_grab, b_grab⟩ := C1.ex
  obtain ⟨f2, fd2, G_many_names, g_many_names, k_many_names, b_many_names⟩ := C2.ex
  obtain ⟨f3, fd3, G_one_of, g_one_of, k_one_of, b_one_of⟩ := C3.ex
  refine F.ok sc_wide_net (fun vs H Q E h => ?_) (fun cdv A outer s H vs Q E hr h => ?_)
  · obtain ⟨k, rfl, _⟩ := h
    rfl
  obtain ⟨k, rfl, hk, q⟩ := h
  refine ⟨_, (pss_cons (ps_asg (pe_tup (pa_cons (pe_call G_one_of (hr.mono (by decide)) (by rfl) g_one_of k_one_of b_one_of .nil pass0 (pa_cons (pv 0) (pa_cons (pe_lst (pa_cons pe_int (pa_cons pe_int (pa_cons pe_int (pa_cons pe_int (pa_cons pe_int (pa_cons pe_int (pa_cons pe_int pa_nil)))))))) pa_nil))) (pa_cons (pe_call G_many_names (hr.mono (by decide)) (by rfl) g_many_names k_many_names b_many_names .nil pass0 (pa_cons (pv 0) (pa_cons pe_int pa_nil))) (pa_cons pe_dnewK pa_nil)))) (pg_tup (by rfl) (pgs_cons (pg_name (i := 1) sc_wide_net.nd rfl (.inr rfl)) (pgs_cons (pg_name (i := 2) sc_wide_net.nd rfl (.inl rfl)) (pgs_cons (pg_name (i := 3) sc_wide_net.nd rfl (.inl rfl)) pgs_nil)))))
  (pss_cons (ps_for PassesOwn.never rfl (pi_range1 (by rfl) B.range_ (pa_cons (pe_ifExp (pt_cmpR op_gt (pv 1) pe_int (nomark _)) (pe_call G_grab (hr.mono (by decide)) (by rfl) g_grab k_grab b_grab .nil pass0 (pa_cons (pv 0) (pa_cons pe_int pa_nil))) pe_int) pa_nil)) (pg_name (i := 4) sc_wide_net.nd rfl (.inl rfl)) (pss_one (ps_dputN hr.units (pv 3) (pe_tup (pa_cons (pe_call G_one_of (hr.mono (by decide)) (by rfl) g_one_of k_one_of b_one_of .nil pass0 (pa_cons (pv 0) (pa_cons (pv 2) pa_nil))) (pa_cons (pe_callTy call_tuple_of (by rfl) B.tuple_ (by decide +kernel) (pa_cons (pe_lc (own := [("_law_at", 5)]) (g := gName 5) (tt := tYes) rfl sc_wide_net.nd (pi_range1 (by rfl) B.range_ (pa_cons (pe_op op_add pe_int (pe_call G_grab (hr.mono (by decide)) (by rfl) g_grab k_grab b_grab .nil pass0 (pa_cons (pv 0) (pa_cons pe_int pa_nil)))) pa_nil)) (blkOk_by (own := [("_law_at", 5)]) (N := nm_wide_net) (sc := defScope s_wide_net) (by decide +kernel)) (fun _ _ _ _ _ => (pg_name (i := 5) sc_wide_net.nd rfl (.inl rfl))) (fun _ _ _ _ _ => pts_nil) (fun _ _ _ _ _ => (pe_call G_grab (hr.mono (by decide)) (by rfl) g_grab k_grab b_grab .nil pass0 (pa_cons (pv 0) (pa_cons (pv 1) pa_nil))))) pa_nil)) pa_nil))) pe_bl rfl)))
  (pss_one (ps_ret (pe_disp (pps_cons pe_str (pv 1) (pps_cons pe_str (pe_callTy call_tuple_of (by rfl) B.tuple_ (by decide +kernel) (pa_cons (pe_callB (call_sortDn rfl (Nat.lt_of_le_of_lt (Nat.add_le_add_left (by decide : 100 ≤ 200) _) (Room.u200 hr))) (by rfl) B.sorted_ (by decide +kernel) (pa_cons (pv 3) pa_nil)) pa_nil)) pps_nil)) (by rfl) (by rfl) (fun z => by cases z) (by decide)))))), ?_⟩
  refine ⟨.ref k, rfl, by show 7 ≤ sizeLine; decide, fun l7 nl7 => ?_⟩
  have l7k : l7 ≠ k := hk.ne nl7
  have b0 : But k H (upd H l7 (.lst [.int 0, .int 1, .int 2, .int 3, .int 5, .int 12, .int 60])) := (But.same hk (Same.refl H)).up nl7
  refine ⟨k, l7, _, rfl, b0.sack, l7k, upd_same, by simp, by show 7 ≤ 1000; decide, fun G1 v b1 hv => ?_⟩
  obtain ⟨n, rfl, n60⟩ : ∃ n : Nat, v = .int n ∧ n ≤ 60 := by
    simp only [List.mem_cons, List.not_mem_nil, or_false] at hv
    rcases hv with rfl | rfl | rfl | rfl | rfl | rfl | rfl
    · exact ⟨0, rfl, by decide⟩
    · exact ⟨1, rfl, by decide⟩
    · exact ⟨2, rfl, by decide⟩
    · exact ⟨3, rfl, by decide⟩
    · exact ⟨5, rfl, by decide⟩
    · exact ⟨12, rfl, by decide⟩
    · exact ⟨60, rfl, by decide⟩
  have b1h := b0.trans b1
  refine ⟨.ref k, rfl, k, 4, rfl, b1.sack, fun G2 lN ns b2 _ lNk eN _ n4 good => ?_⟩
  have n4 : ns.length = 4 := by have := n4 (by decide) (by decide); omega
  have b2h := b1h.trans b2
  refine fun fd0 nf => ?_
  have fk : fd0 ≠ k := b2.sack.ne nf
  have fH : H fd0 = none := b2h.free hk nf
  have fN : lN ≠ fd0 := fun z => by rw [z, nf] at eN; cases eN
  have b3h : But k H (upd G2 fd0 (.dK [])) := b2h.up nf
  have e3 : (upd G2 fd0 (.dK [])) fd0 = some (.dK []) := upd_same
  have eN3 : (upd G2 fd0 (.dK [])) lN = some (.lst (ns.map V.str)) := by rw [upd_ne fN]; exact eN
  generalize upd G2 fd0 (.dK []) = G3 at b3h e3 eN3 ⊢
  refine ⟨by show 3 ≤ sizeLine; decide, fun t nt => ⟨t, _, rfl, .inl (.inl upd_same), rfl, _, _, rfl, _, _, rfl, _, _, rfl, rfl, ?_⟩⟩
  have tk : t ≠ k := b3h.sack.ne nt
  have b4h : But k H (upd G3 t (.tup [.int n, .ref lN, .ref fd0])) := b3h.up nt
  have s4 : Same G3 (upd G3 t (.tup [.int n, .ref lN, .ref fd0])) := Same.newG nt
  have e4 := s4 _ _ e3
  have eN4 := s4 _ _ eN3
  generalize upd G3 t (.tup [.int n, .ref lN, .ref fd0]) = G4 at b4h e4 eN4 ⊢
  refine ⟨_, rfl, (n : Int), 0, rfl, rfl, _, rfl, ?_⟩
  by_cases c : n = 0
  case' pos =>
    rw [decide_eq_false (show ¬ (0 : Int) < (n : Int) by omega)]
    refine iteF ?_
    have bG := b4h
    have eG := e4
    have eNG := eN4
    have hv' : ∃ g : Int, V.int 0 = .int g ∧ 0 ≤ g ∧ g ≤ 20 ∧ (1 ≤ g → 1 ≤ n) := ⟨0, rfl, by decide, by decide, fun z => absurd z (by decide)⟩
    generalize V.int 0 = vv at hv' ⊢
    generalize G4 = GG at bG eG eNG ⊢
  case' neg =>
    rw [decide_eq_true (show (0 : Int) < (n : Int) by omega)]
    refine iteT ⟨.ref k, rfl, k, 21, rfl, b4h.sack, by decide, by decide, fun G5 g b5 g0 g1 => ?_⟩
    have bG := b4h.trans b5
    have eG := b5.stay fd0 _ fk e4
    have eNG := b5.stay lN _ lNk eN4
    have hv' : ∃ g' : Int, V.int g = .int g' ∧ 0 ≤ g' ∧ g' ≤ 20 ∧ (1 ≤ g' → 1 ≤ n) := ⟨g, rfl, g0, by omega, fun z => by omega⟩
    generalize V.int g = vv at hv' ⊢
    generalize G5 = GG at bG eG eNG ⊢
  all_goals
    obtain ⟨g, rfl, g0, g20, pos⟩ := hv'
    refine ⟨g, rfl, by omega, by omega, for_range (n := g.toNat) (fun i σ F => ∃ (xs : NX) (z4 z5 : Option V), σ = [some (.ref k), some (.int n), some (.ref lN), some (.ref fd0), z4, z5] ∧ But k H F ∧ F lN = some (.lst (ns.map V.str)) ∧ IsDn w F fd0 xs ∧ (∀ p ∈ xs, ∃ q, KeyOk n ns F p q) ∧ xs.length ≤ i ∧ (xs.map fun p => nk p.1).Nodup)
      ⟨[], _, _, rfl, bG, eNG, .inr ⟨rfl, eG⟩, fun p hp => (by cases hp), Nat.zero_le _, List.nodup_nil⟩ (fun i σ F hi hW => ?_) (fun σ F hW => ?_)⟩
    · obtain ⟨xs, z4, z5, rfl, bF, eNF, dF, kF, lF, nF⟩ := hW
      have npos : 1 ≤ n := pos (by omega)
      have nne : ns.map V.str ≠ [] := fun z => by
        have z := congrArg List.length z
        rw [List.length_map, n4] at z
        cases z
      refine ⟨.ref fd0, rfl, .ref k, rfl, .ref lN, rfl, k, lN, ns.map V.str, rfl, bF.sack, lNk, eNF, nne, by rw [List.length_map]; omega, fun F1 v b1 hv => ?_⟩
      obtain ⟨x, hx, rfl⟩ := List.mem_map.mp hv
      have bF1 := bF.trans b1
      refine ⟨.ref k, rfl, k, 3, rfl, bF1.sack, by decide, by decide, fun F2 g3 b2' y0 y1 => ⟨1, g3, rfl, rfl, 1 + g3, rfl, by omega, by omega, fun D nD => ?_⟩⟩
      have bF2 := bF1.trans b2'
      have Dk : D ≠ k := bF2.sack.ne nD
      refine lc_rngG (But k F2) (fun i acc => ∃ is : List Int, acc = is.map V.int ∧ is.length = i ∧ ∀ x ∈ is, 0 ≤ x ∧ x < n) ((But.same bF2.sack (Same.refl F2)).up nD) ⟨[], rfl, rfl, fun c hc => by cases hc⟩ (fun i2 F3 hi2 nx => ?_) (fun F3 acc b3 eD ea => ?_)
      · obtain ⟨acc, b3, eD, is, ea, el, ec⟩ := nx
        refine ⟨rfl, tyes ⟨.ref k, rfl, .int n, rfl, k, n, rfl, b3.sack, by omega, by omega, fun F4 r b4 r0 r1 => nx_put (fun F o z => z.upD nD Dk) (b3.trans b4) (b4.stay D _ Dk eD) (by rw [ea, List.length_map, el]; omega) ⟨is ++ [r], ?_, ?_, ?_⟩⟩⟩
        · rw [ea, List.map_append]
          rfl
        · rw [List.length_append, el]
          rfl
        · intro d hd
          rcases List.mem_append.mp hd with hd | hd
          · exact ec d hd
          · cases List.mem_singleton.mp hd
            exact ⟨r0, r1⟩
      obtain ⟨is, ea, el, ec⟩ := ea
      subst ea
      have bFF : But k F F3 := (b1.trans b2').trans b3
      have dk : D ≠ fd0 := fun z => by
        have w := bFF.stay
        rcases dF with dF | ⟨_, dF⟩
        · have e := (b1.trans b2').stay fd0 _ fk dF
          rw [z, e] at nD
          cases nD
        · have e := (b1.trans b2').stay fd0 _ fk dF
          rw [z, e] at nD
          cases nD
      refine ⟨D, _, rfl, .inl ⟨SqL.of eD, fun t2 nt2 => ⟨by show 2 ≤ sizeLine; decide, fun b nb => ?_⟩⟩⟩
      have s5 : Same F3 (upd (upd F3 t2 (.tup (is.map V.int))) b (.tup [.str x, .ref t2])) := (Same.newG nt2).trans (Same.newG nb)
      have et2 : (upd (upd F3 t2 (.tup (is.map V.int))) b (.tup [.str x, .ref t2])) t2 = some (.tup (is.map V.int)) := (Same.newG nb) _ _ upd_same
      have eb : (upd (upd F3 t2 (.tup (is.map V.int))) b (.tup [.str x, .ref t2])) b = some (.tup [.str x, .ref t2]) := upd_same
      have b5 : But k F3 (upd (upd F3 t2 (.tup (is.map V.int))) b (.tup [.str x, .ref t2])) := But.same bFF.sack s5
      generalize upd (upd F3 t2 (.tup (is.map V.int))) b (.tup [.str x, .ref t2]) = F5 at s5 et2 eb b5 ⊢
      have bF5 := bFF.trans b5
      have gx : GoodP n (x, is) := ⟨good x hx, by show 1 ≤ is.length; omega, by show is.length ≤ 3; omega, ec⟩
      have kq : KeyOk n ns F5 (prD (x, is), b) (x, is) := ⟨rfl, gx, hx, t2, eb, et2⟩
      have kp := bF5.keepT bF.sack
      have d5 : IsDn w F5 fd0 xs := by
        rcases dF with dF | ⟨e, dF⟩
        · exact .inl (bF5.stay fd0 _ fk dF)
        · exact .inr ⟨e, bF5.stay fd0 _ fk dF⟩
      have k5 : ∀ p ∈ xs, ∃ q, KeyOk n ns F5 p q := fun p hp => by
        obtain ⟨q, hq⟩ := kF p hp
        exact ⟨q, hq.mv kp⟩
      refine ⟨fd0, b, xs, prD (x, is), rfl, rfl, rfl, d5, fun p hp => ?_, kq.key, small1000 (by omega), ?_⟩
      · obtain ⟨q, hq⟩ := k5 p hp
        exact hq.key
      have mu : KeepT F5 (upd F5 fd0 (DictNO w fd0 (putN xs (prD (x, is)) b))) := by
        rcases d5 with d5 | ⟨_, d5⟩
        · exact KeepT.put _ d5 fun ys => ⟨(fun z => nomatch z), fun o z => nomatch z⟩
        · exact KeepT.dic _ d5
      have fl : lN ≠ fd0 := fun z => by
        have e := bF5.stay lN _ lNk eNF
        rw [z] at e
        rcases d5 with d5 | ⟨_, d5⟩
        · rw [e] at d5
          cases d5
        · rw [e] at d5
          cases d5
      refine ⟨putN xs (prD (x, is)) b, _, _, rfl, But.upD fH fk (bF.trans bF5), by rw [upd_ne fl]; exact bF5.stay lN _ lNk eNF, .inl upd_same, fun p hp => ?_, ?_, ?_⟩
      · unfold putN at hp
        split at hp
        · obtain ⟨q, hq⟩ := k5 p hp
          exact ⟨q, hq.mv mu⟩
        · rcases List.mem_append.mp hp with hp | hp
          · obtain ⟨q, hq⟩ := k5 p hp
            exact ⟨q, hq.mv mu⟩
          · rw [List.mem_singleton.mp hp]
            exact ⟨_, kq.mv mu⟩
      · unfold putN
        split
        · omega
        · rw [List.length_append]
          exact Nat.succ_le_succ lF
      · unfold putN
        split
        · exact nF
        · rename_i hany
          rw [List.map_append]
          refine List.nodup_append.mpr ⟨nF, by simp, fun y hy z hz e => hany ?_⟩
          obtain ⟨p, hp, rfl⟩ := List.mem_map.mp hy
          have hz : z = nk (prD (x, is)) := by simpa using hz
          exact List.any_eq_true.mpr ⟨p, hp, decide_eq_true (e.trans hz)⟩
    · obtain ⟨xs, z4, z5, rfl, bF, eNF, dF, kF, lF, nF⟩ := hW
      refine fun p np => ⟨.int n, rfl, .ref fd0, rfl, ?_⟩
      have pk : p ≠ k := bF.sack.ne np
      have pHn : H p = none := bF.free hk np
      have sP : Same F (upd F p (.dK [])) := Same.newG np
      have ep : (upd F p (.dK [])) p = some (.dK []) := upd_same
      generalize upd F p (.dK []) = FP at sP ep ⊢
      have bP := bF.trans (But.same bF.sack sP)
      have dP : IsDn w FP fd0 xs := by
        rcases dF with dF | ⟨e, dF⟩
        · exact .inl (sP _ _ dF)
        · exact .inr ⟨e, sP _ _ dF⟩
      have kP : ∀ p ∈ xs, ∃ q, KeyOk n ns FP p q := fun p hp => by
        obtain ⟨q, hq⟩ := kF p hp
        exact ⟨q, hq.mv (SameN.of sP).keepT⟩
      refine ⟨fd0, xs, fun v => prD (K7.pH FP v), false, rfl, dP, swo_pr (K7.pH FP), fun p' hp' => ?_, fun p1 h1 p2 h2 => ok_pr _ _, fun ys l2 srt stb nl2 => ⟨l2, _, rfl, .inl ⟨SqL.of upd_same, fun l nl => ?_⟩⟩⟩
      · obtain ⟨q, hq⟩ := kP p' hp'
        have e := hq.pH
        have dp := (hq.prAt (K := K)).td.dp
        refine ⟨⟨_, rfl⟩, ?_, ?_, ?_, ?_⟩
        · rw [e]; exact dp
        · rw [e]; exact on_pr q
        · rw [e]; rfl
        · rw [e]; exact Nat.le_trans (depth_pr q) (by decide)
      have s2 : Same FP (upd (upd FP l2 (.lst ys)) l (.tup ys)) := (Same.newG nl2).trans (Same.newG nl)
      have el : (upd (upd FP l2 (.lst ys)) l (.tup ys)) l = some (.tup ys) := upd_same
      generalize upd (upd FP l2 (.lst ys)) l (.tup ys) = FQ at s2 el ⊢
      have ep2 := s2 _ _ ep
      refine ⟨ep2, pl n l, rfl, by show 2 ≤ 15; decide, ?_⟩
      rw [pl_merge]
      have lp : l ≠ p := fun z => by
        rw [z, ep2] at el
        cases el
      have kk : KeepT FP (upd FQ p (.dK (pl n l))) := (SameN.of s2).keepT.trans (KeepT.dic _ ep2)
      have mem : ∀ v ∈ ys, ∃ p' q, p' ∈ xs ∧ v = .ref p'.2 ∧ KeyOk n ns FP p' q := fun v hv => by
        obtain ⟨p', hp', rfl⟩ := List.mem_map.mp (stb.perm.mem_iff.mp hv)
        obtain ⟨q, hq⟩ := kP p' hp'
        exact ⟨p', q, hp', rfl, hq⟩
      have len : ys.length = xs.length := by rw [stb.perm.length_eq, List.length_map]
      have ndq : (ys.map (K7.pH FP)).Nodup := by
        have z : ((xs.map fun p => V.ref p.2).map (K7.pH FP)).Nodup := by
          have e : (xs.map fun p => nk p.1) = ((xs.map fun p => V.ref p.2).map (K7.pH FP)).map fun q => nk (prD q) := by
            rw [List.map_map, List.map_map]
            refine List.map_congr_left fun p hp => ?_
            obtain ⟨q, hq⟩ := kP p hp
            show nk p.1 = nk (prD (K7.pH FP (.ref p.2)))
            rw [hq.pH, hq.dat]
          rw [e] at nF
          exact List.Pairwise.of_map (fun q => nk (prD q)) (fun a b ne e => ne (by rw [e])) nF
        exact (stb.perm.map (K7.pH FP)).nodup_iff.mpr z
      refine q _ p l n (ys.map (K7.pH FP)) (But.upD pHn pk (bP.trans (But.same bP.sack s2))) ⟨upd_same, ⟨ys, .inl (.inl (by rw [upd_ne lp]; exact el)), prs_all fun v hv => ?_⟩, ⟨n60, srt_of ?_ ndq, fun q hq => ?_, ?_⟩, ns, by omega, fun q hq => ?_⟩
      · obtain ⟨p', q, _, rfl, hq⟩ := mem v hv
        have z := (hq.prAt (K := K)).mv kk
        rw [hq.pH]
        exact z
      · rw [List.pairwise_map]
        refine List.Pairwise.imp (fun {a b} h => ?_) srt
        have h : ltD (prD (K7.pH FP b)) (prD (K7.pH FP a)) = false := h
        rw [lt_pr] at h
        exact h
      · obtain ⟨v, hv, rfl⟩ := List.mem_map.mp hq
        obtain ⟨p', q, _, rfl, ho⟩ := mem v hv
        rw [ho.pH]
        exact ho.good
      · rw [List.length_map, len]
        omega
      · obtain ⟨v, hv, rfl⟩ := List.mem_map.mp hq
        obtain ⟨p', q, _, rfl, ho⟩ := mem v hv
        rw [ho.pH]
        exact ho.nm
end
end K7

set_option Elab.async false
set_option linter.all false
set_option maxRecDepth 100000
set_option maxHeartbeats 1000000
/-! Yg: _law_is_net, _law_near. -/
namespace K7
open PySem PySem.Spec PyProof.Rows L2 Gd
theorem sm_int60 {i : Int} (h0 : 0 ≤ i) (h : i ≤ 60) : Sm 0 2 (.int i) := by
  have z : ((List.range 61).all fun n => (PyData.int n).showable && decide ((PyData.int n).shown.length ≤ 2)) = true := by decide +kernel
  obtain ⟨n, rfl⟩ := Int.eq_ofNat_of_zero_le h0
  have w := List.all_eq_true.mp z n (List.mem_range.mpr (by omega))
  rw [Bool.and_eq_true] at w
  exact ⟨w.1, by simp [PyData.hasDict], by simp [PyData.depth], of_decide_eq_true w.2⟩
theorem Nm.small {x : Str} (h : Nm x) : ∀ c ∈ x.cps.toList, c < 16 ^ 8 := fun c hc => (by decide +kernel : ∀ c ∈ letters.cps.toList, c < 16 ^ 8) c (h.2.2 c hc)
theorem sm_name {x : Str} (h : Nm x) : Sm 0 200 (.str x) := sm_str h.small (by have := h.2.1; omega)
theorem sm_names {ns : List Str} (h : ∀ x ∈ ns, Nm x) : Sm 1 (ns.length * 202 + 3) (.tuple (ns.map PyData.str)) := by
  have z := sm_tup (n := 0) (c := 200) (ds := ns.map PyData.str) fun d hd => by
    obtain ⟨x, hx, rfl⟩ := List.mem_map.mp hd
    exact sm_name (h x hx)
  rw [List.length_map] at z
  exact z
theorem sm_pr {n : Nat} {q : Pr} (hn : n ≤ 60) (g : GoodP n q) : Sm 2 500 (prD q) := by
  have h1 : Sm 1 20 (intsD q.2) := by
    have z := sm_tup (n := 0) (c := 2) (ds := q.2.map PyData.int) fun d hd => by
      obtain ⟨x, hx, rfl⟩ := List.mem_map.mp hd
      have := g.inn x hx
      exact sm_int60 this.1 (by omega)
    rw [List.length_map] at z
    exact z.mono (Nat.le_refl _) (by have := g.few; omega)
  have z := sm_tup (n := 1) (c := 200) (ds := [.str q.1, intsD q.2]) fun d hd => by
    rcases List.mem_cons.mp hd with e | hd
    · rw [e]
      exact (sm_name g.nm).mono (by decide) (Nat.le_refl _)
    · rw [List.mem_singleton.mp hd]
      exact h1.mono (Nat.le_refl _) (by decide)
  exact z.mono (Nat.le_refl _) (by show 2 * (200 + 2) + 3 ≤ 500; decide)
theorem sm_net {n : Nat} {qs : List Pr} (ok : OkN n qs) : Sm 4 50000 (.list [.int n, prsD qs]) := by
  have h1 : Sm 3 20000 (prsD qs) := by
    have z := sm_tup (n := 2) (c := 500) (ds := qs.map prD) fun d hd => by
      obtain ⟨q, hq, rfl⟩ := List.mem_map.mp hd
      exact sm_pr ok.n60 (ok.good q hq)
    rw [List.length_map] at z
    exact z.mono (Nat.le_refl _) (by have := ok.few; omega)
  have z := sm_lst (n := 3) (c := 20000) (ds := [.int n, prsD qs]) fun d hd => by
    rcases List.mem_cons.mp hd with e | hd
    · rw [e]
      exact (sm_int60 (by omega) (by have := ok.n60; omega)).mono (by decide) (by decide)
    · rw [List.mem_singleton.mp hd]
      exact h1
  exact z.mono (Nat.le_refl _) (by show 2 * (20000 + 2) + 3 ≤ 50000; decide)
theorem pl_put_size (n m : Int) (d : Addr) : putK (pl n d) (.inr ("size" : Str)) (.int m) = pl m d := by kernel_rfl
theorem pl_put_ties (n : Int) (d d2 : Addr) : putK (pl n d) (.inr ("ties" : Str)) (.ref d2) = pl n d2 := by kernel_rfl
theorem pl_nodup (n : Int) (d : Addr) : ((pl n d).map Prod.fst).Nodup := by
  show ([(.inr ("size" : Str)), (.inr ("ties" : Str))] : List Key).Nodup
  decide +kernel
theorem cut_to {xs : List V} {i : Nat} : cutV xs none (some (i : Int)) = xs.take i := by
  unfold cutV
  rw [HT.sIx_nat xs.length xs.length i, show HT.sIx xs.length 0 none = 0 from rfl, List.drop_zero, Nat.sub_zero]
  rcases Nat.le_total i xs.length with h | h
  · rw [Nat.min_eq_left h]
  · rw [Nat.min_eq_right h, List.take_of_length_le (Nat.le_refl _), List.take_of_length_le h]
theorem cut_from {xs : List V} {i : Nat} : cutV xs (some (i : Int)) none = xs.drop i := by
  unfold cutV
  rw [HT.sIx_nat xs.length 0 i, show HT.sIx xs.length xs.length none = xs.length from rfl]
  rcases Nat.le_total i xs.length with h | h
  · rw [Nat.min_eq_left h, List.take_of_length_le (by rw [List.length_drop]; exact Nat.le_refl _)]
  · rw [Nat.min_eq_right h, List.drop_of_length_le (Nat.le_refl _), List.drop_of_length_le h, List.take_nil]
theorem GoodP.up {n : Nat} {q : Pr} (g : GoodP n q) : GoodP (n + 1) q := ⟨g.nm, g.one, g.few, fun x hx => by have := g.inn x hx; omega⟩
section
variable {P : Program} {w : World} {K : PySem.W.Frag} {mg : Str → Option Value} {base : Heap} {C D : Addr}
def spIsNet (K : PySem.W.Frag) (D : Addr) : Sp := fun vs H Q _ => ∃ (a p t t2 : Addr) (n : Nat) (qs : List Pr), vs = [.ref a, .ref p] ∧ NetAt K H D a n t qs ∧ PlnAt K H p t2 n qs ∧ ∀ G, Same H G → Q (.bl true) G
theorem ok_is_net {f : Addr} {fd : FuncData} (F : Fun K "_law_is_net" "_law_is_net" s_is_net f fd) (B : Blt mg) (N : Bn K mg D) (M1 : HasP P w K mg base D 1 "size" (getSp D "_size")) (M2 : HasP P w K mg base D 1 "ties" (getSp D "_ties")) : FnG P w K mg base CX0 3 f fd ["_law_made", "_law_plain"] (spIsNet K D) := by
  obtain ⟨p1, g1, fd1, Pr_size, G_size, b_size⟩ := M1.ex
  obtain ⟨p2, g2, fd2, Pr_ties, G_ties, b_ties⟩ := M2.ex
  refine def_ok F sc_is_net (fun vs H Q E h => ?_) (fun cdv A outer s H vs Q E hr hgd0 h => ?_)
  · obtain ⟨a, p, t, t2, n, qs, rfl, _⟩ := h
    rfl
  obtain ⟨a, p, t, t2, n, qs, rfl, ⟨⟨dx, ha⟩, hT⟩, hp, q⟩ := h
  have hgd : (A.deeper (envOfC "_law_is_net" (defScope s_is_net) s.heap.objs.size f cdv)).guards = some [] := hgd0
  refine ⟨_, (pss_one (ps_ret (pe_cmpR op_eq (pe_callB (call_repr hgd hr.units) (by rfl) B.repr_ (by decide +kernel) (pa_cons (pe_lst (pa_cons (pe_prop (pv 0) N.cl Pr_size G_size (hr.mono (by decide)) b_size .nil pass0 rfl) (pa_cons (pe_prop (pv 0) N.cl Pr_ties G_ties (hr.mono (by decide)) b_ties .nil pass0 rfl) pa_nil))) pa_nil)) (pe_callB (call_repr hgd hr.units) (by rfl) B.repr_ (by decide +kernel) (pa_cons (pe_lst (pa_cons (pe_dget (hu_of hr) (pv 1) pe_str (fun _ _ => rfl)) (pa_cons (pe_dget (hu_of hr) (pv 1) pe_str (fun _ _ => rfl)) pa_nil))) pa_nil)) (nomark _)))), ?_⟩
  have sm := sm_net hp.ok
  refine ⟨.ref a, rfl, a, dx, _, rfl, ha, a, dx, _, _, rfl, ha, nf_size _ _, .ref a, rfl, a, dx, _, rfl, ha, a, dx, _, _, rfl, ha, nf_ties _ _, by show 2 ≤ sizeLine; decide, fun l1 nl1 => ?_⟩
  have s1 : Same H (upd H l1 (.lst [.int n, .ref t])) := Same.newG nl1
  obtain ⟨ts, hS, hq⟩ := hT.mv (SameN.of s1).keepT
  refine ⟨l1, _, rfl, .lst (SqL.of upd_same) (.cons (.int n) (.cons (hq.td hS).dp .nil)), sm.sh, sm.nd, sm.r1 (by decide), sm.r2 (by decide), ?_⟩
  generalize upd H l1 (.lst [.int n, .ref t]) = H1 at s1 ⊢
  have hp1 := hp.same (SameN.of s1)
  refine ⟨.ref p, rfl, p, .int n, rfl, dget_size (.inl hp1.at_), .ref p, rfl, p, .ref t2, rfl, dget_ties (.inl hp1.at_), by show 2 ≤ sizeLine; decide, fun l2 nl2 => ?_⟩
  have s2 : Same H1 (upd H1 l2 (.lst [.int n, .ref t2])) := Same.newG nl2
  obtain ⟨ts2, hS2, hq2⟩ := hp1.ts.mv (SameN.of s2).keepT
  refine ⟨l2, _, rfl, .lst (SqL.of upd_same) (.cons (.int n) (.cons (hq2.td hS2).dp .nil)), sm.sh, sm.nd, sm.r1 (by decide), sm.r2 (by decide), rfl, ?_⟩
  rw [decide_eq_true rfl]
  exact q _ (s1.trans s2)
def spNear (K : PySem.W.Frag) : Sp := fun vs H Q _ => ∃ (k p t : Addr) (n : Nat) (qs : List Pr), vs = [.ref k, .ref p] ∧ Sack H k ∧ PlnAt K H p t n qs ∧ ∀ G p2 t2 n2 qs2, But k H G → PlnAt K G p2 t2 n2 qs2 → Q (.ref p2) G
theorem ok_near {f : Addr} {fd : FuncData} (F : Fun K "_law_near" "_law_near" s_near f fd) (B : Blt mg) (C1 : Has P w K mg base 1 "_law_grab" ["_law_sack_here", "_law_total"] spGrab) (C3 : Has P w K mg base 1 "_law_with" ["_law_record", "_law_word", "_law_value"] spWith) : FnOk P w K mg base CX0 2 f fd ["_law_sack_here", "_law_plain"] (spNear K) := by
  obtain ⟨f1, fd1, G_grab, g_grab, k_grab, b_grab⟩ := C1.ex
  obtain ⟨f3, fd3, G_with, g_with, k_with, b_with⟩ := C3.ex
  refine F.ok sc_near (fun vs H Q E h => ?_) (fun cdv A outer s H vs Q E hr h => ?_)
  · obtain ⟨k, p, t, n, qs, rfl, _⟩ := h
    rfl
  obtain ⟨k, p, t, n, qs, rfl, hk, hp, q⟩ := h
  refine ⟨_, (pss_cons (ps_set (i := 2) sc_near.nd rfl (.inl rfl) (pe_call G_grab (hr.mono (by decide)) (by rfl) g_grab k_grab b_grab .nil pass0 (pa_cons (pv 0) (pa_cons pe_int pa_nil))))
  (pss_cons (ps_if (PW.pt (pw_and (pt_cmpR op_eq (pv 2) pe_int (nomark _)) (pw_and1 (pt_cmpR op_lt (pe_dget (hu_of hr) (pv 1) pe_str (fun _ _ => rfl)) pe_int (nomark _))))) (pss_one (ps_ret (pe_call G_with (hr.mono (by decide)) (by rfl) g_with k_with b_with .nil pass0 (pa_cons (pv 1) (pa_cons pe_str (pa_cons (pe_op op_add (pe_dget (hu_of hr) (pv 1) pe_str (fun _ _ => rfl)) pe_int) pa_nil)))))) pss_nil)
  (pss_cons (ps_if (PW.pt (pw_and (pt_cmpR op_eq (pv 2) pe_int (nomark _)) (pw_and1 (pt_cmpR (op_neP hr.units) (pe_dget (hu_of hr) (pv 1) pe_str (fun _ _ => rfl)) (pe_tup pa_nil) (nomark _))))) (pss_cons (ps_set (i := 3) sc_near.nd rfl (.inl rfl) (pe_call G_grab (hr.mono (by decide)) (by rfl) g_grab k_grab b_grab .nil pass0 (pa_cons (pv 0) (pa_cons (pe_callB call_len_seq (by rfl) B.len_ (by decide +kernel) (pa_cons (pe_dget (hu_of hr) (pv 1) pe_str (fun _ _ => rfl)) pa_nil)) pa_nil))))
  (pss_one (ps_ret (pe_call G_with (hr.mono (by decide)) (by rfl) g_with k_with b_with .nil pass0 (pa_cons (pv 1) (pa_cons pe_str (pa_cons (pe_op op_catU (pe_slice sl_tupU (pe_dget (hu_of hr) (pv 1) pe_str (fun _ _ => rfl)) po_none (po_some (pv 3))) (pe_slice sl_tupU (pe_dget (hu_of hr) (pv 1) pe_str (fun _ _ => rfl)) (po_some (pe_op op_add (pv 3) pe_int)) po_none)) pa_nil))))))) pss_nil)
  (pss_one (ps_ret (pe_callTy (call_dictP rfl) (by rfl) B.dict_ (by decide +kernel) (pa_cons (LiI.pe_listItems rfl (pv 1) (by rfl) B.list_ (by decide +kernel)) pa_nil))))))), ?_⟩
  refine ⟨.ref k, rfl, k, 3, rfl, hk, by decide, by decide, fun G1 lot b1 l0 l3 => ?_⟩
  have hp1 := hp.but hk b1
  have fin : ∀ (F : Hp), But k H F → PlnAt K F p t n qs → ∃ x : Prop, x := fun _ _ _ => ⟨True, trivial⟩
  refine ⟨.int lot, rfl, rfl, _, rfl, ite2 (fun z => ⟨.ref p, rfl, p, .int n, rfl, dget_size (.inl hp1.at_), _, 60, rfl, rfl, _, rfl, ite2 (fun z2 => ?c) (fun z2 => ?d)⟩) (fun z => iteF ?b)⟩
  case c =>
    have n3 : (n : Int) < 60 := of_decide_eq_true z2
    refine ⟨.ref p, rfl, .ref p, rfl, p, .int n, rfl, dget_size (.inl hp1.at_), n, 1, rfl, rfl, p, "size", .int (n + 1), pl n t, rfl, hp1.at_, pl_nodup _ _, by show 2 ≤ 1000; decide, fun G2 p2 s2 np2 e2 => ?_⟩
    rw [pl_put_size] at e2
    have hp2 := hp1.same (SameN.of s2)
    have e2 : G2 p2 = some (.dK (pl ((n + 1 : Nat) : Int) t)) := e2
    exact q G2 p2 t (n + 1) qs (b1.trans (But.same b1.sack s2)) ⟨e2, hp2.ts, ⟨by omega, hp2.ok.srt, fun q hq => (hp2.ok.good q hq).up, hp2.ok.few⟩, hp2.four⟩
  all_goals
    refine ⟨.int lot, rfl, rfl, _, rfl, ite2 (fun y => ⟨.ref p, rfl, p, .ref t, rfl, dget_ties (.inl hp1.at_), by show 0 ≤ sizeLine; decide, fun e0 ne0 => ?x⟩) (fun y => iteF ?y)⟩
    case x =>
      have s0 : Same G1 (upd G1 e0 (.tup [])) := Same.newG ne0
      have ee : (upd G1 e0 (.tup [])) e0 = some (.tup []) := upd_same
      generalize upd G1 e0 (.tup []) = G0 at s0 ee ⊢
      have hp0 := hp1.same (SameN.of s0)
      have b0 : But k H G0 := b1.trans (But.same b1.sack s0)
      obtain ⟨ts, hS, hq⟩ := id hp0.ts
      have hl := hq.len
      have td0 : Td K G0 (.ref e0) (prsD []) := .tup (.inl (.inl ee)) rfl fun i x d h1 h2 => by cases h1
      refine ⟨prsD qs, prsD [], (hq.td hS).dp, td0.dp, plain_prs _, plain_prs _, Nat.le_trans (depth_prs _) (by decide), ?_⟩
      rw [if_pos rfl, eqv_prs]
      refine ⟨_, rfl, ite2 (fun y2 => ?u) (fun y2 => ?v)⟩
      case v =>
        refine ⟨.ref p, rfl, p, pl n t, rfl, hp0.at_, fun G2 l ts sm np nts pts hl hts => ⟨l, ts, pl n t, rfl, SqL.of hl, paired_ts hts, fun r nr => ?_⟩⟩
        rw [pl_merge]
        have sm : Same G0 G2 := sm
        have hz := hp0.same (SameN.of (sm.trans (Same.newG (o := .dK (pl n t)) nr)))
        exact q _ r t n qs (b0.trans (But.same b0.sack (sm.trans (Same.newG nr)))) ⟨upd_same, hz.ts, hz.ok, hz.four⟩
      case u =>
        have ne : qs ≠ [] := fun z => by
          rw [z] at y2
          cases y2
        have pos : 0 < qs.length := List.length_pos_iff.mpr ne
        have few := hp.ok.few
        refine ⟨.ref k, rfl, .ref p, rfl, p, .ref t, rfl, dget_ties (.inl hp0.at_), t, ts, rfl, .inr hS, k, (ts.length : Int), rfl, b0.sack, by omega, by omega, fun G2 at_ b2 a0 a1 => ?_⟩
        obtain ⟨i, rfl⟩ := Int.eq_ofNat_of_zero_le a0
        have hp2 := hp0.but b0.sack b2
        have b02 := b0.trans b2
        have kp2 := b2.keepT b0.sack
        have hS2 := kp2.sqT hS
        have hq2 := hq.mv kp2
        refine ⟨.ref p, rfl, .ref p, rfl, p, .ref t, rfl, dget_ties (.inl hp2.at_), .int i, rfl, i, rfl, t, ts, rfl, hS2, fun b3 G3 s3 hb3 => ?_⟩
        rw [cut_to] at hb3
        have s3 : Same G2 G3 := s3
        have hp3 := hp2.same (SameN.of s3)
        refine ⟨.ref p, rfl, p, .ref t, rfl, dget_ties (.inl hp3.at_), .int i, rfl, i, 1, rfl, rfl, (i : Int) + 1, rfl, t, ts, rfl, s3.tupS hS2, fun b4 G4 s4 hb4 => ?_⟩
        have e1 : ((i : Int) + 1) = ((i + 1 : Nat) : Int) := rfl
        rw [e1, cut_from] at hb4
        have s4 : Same G3 G4 := s4
        refine ⟨b3, b4, _, _, rfl, rfl, s4.tupS hb3, hb4, Nat.le_of_lt (small1000 (by rw [List.length_take, List.length_drop]; omega)), fun c G5 s5 hc => ?_⟩
        have s5 : Same G4 G5 := s5
        have s25 : Same G2 G5 := (s3.trans s4).trans s5
        have hp5 := hp2.same (SameN.of s25)
        have hq5 := hq2.mv (SameN.of s25).keepT
        refine ⟨p, "ties", .ref c, pl n t, rfl, hp5.at_, pl_nodup _ _, by show 2 ≤ 1000; decide, fun G6 p2 s6 np2 e2 => ?_⟩
        rw [pl_put_ties] at e2
        have s6 : Same G5 G6 := s6
        have sub : (qs.take i ++ qs.drop (i + 1)).Sublist qs := by
          rw [← List.eraseIdx_eq_take_drop_succ]
          exact List.eraseIdx_sublist _ _
        obtain ⟨ns, n4, nn⟩ := hp.four
        exact q G6 p2 c n (qs.take i ++ qs.drop (i + 1)) (b02.trans (But.same b02.sack (s25.trans s6))) ⟨e2, ⟨_, s6.tupS hc, ((hq5.take i).app (hq5.drop (i + 1))).mv (SameN.of s6).keepT⟩, ⟨hp.ok.n60, hp.ok.srt.sublist sub, fun q hq => hp.ok.good q (sub.subset hq), Nat.le_trans sub.length_le few⟩, ns, n4, fun q hq => nn q (sub.subset hq)⟩
    case y =>
      refine ⟨.ref p, rfl, p, pl n t, rfl, hp1.at_, fun G2 l ts sm np nts pts hl hts => ⟨l, ts, pl n t, rfl, SqL.of hl, paired_ts hts, fun r nr => ?_⟩⟩
      rw [pl_merge]
      have sm : Same G1 G2 := sm
      have hz := hp1.same (SameN.of (sm.trans (Same.newG (o := .dK (pl n t)) nr)))
      exact q _ r t n qs (b1.trans (But.same b1.sack (sm.trans (Same.newG nr)))) ⟨upd_same, hz.ts, hz.ok, hz.four⟩
end
end K7

set_option Elab.async false
set_option linter.all false
set_option maxRecDepth 100000
set_option maxHeartbeats 1000000
/-! Yh: _law_all_right. -/
namespace K7
open PySem PySem.Spec PyProof.Rows L2 Gd
structure HasI (P : Program) (w : World) (K : PySem.W.Frag) (mg : Str → Option Value) (base : Heap) (D : Addr) : Prop where
  ex : ∃ (f : Addr) (fd : FuncData), FnS P w K mg base CX0 1 f fd ["self"] (spIterT K D (IsTies K D)) ∧ Dun K D f "__iter__" ∧ Binds K fd ["self"] []
/-! values that are in no net -/
section
variable {n : Nat} {qs : List Pr}
theorem in_no_tuple {j : Jv} (h : j.is "tuple" = false) : inB n qs j = false := by
  show ((j.is "tuple" && (decide (((itemsJ j).length : Int) = 2) && (nameJ (fstJ j) && unkJ n (sndJ j)))) && decide (prOf j ∈ qs)) = false
  rw [h]
  rfl
theorem in_len {js : List Jv} (h : js.length ≠ 2) : inB n qs (.tup js) = false := by
  show (((Jv.tup js).is "tuple" && (decide (((itemsJ (.tup js)).length : Int) = 2) && (nameJ (fstJ (.tup js)) && unkJ n (sndJ (.tup js))))) && decide (prOf (.tup js) ∈ qs)) = false
  rw [decide_eq_false (show ¬ ((itemsJ (.tup js)).length : Int) = 2 from fun z => h (by have w : (itemsJ (.tup js)).length = js.length := rfl; omega)), Bool.false_and, Bool.and_false]
  rfl
theorem in_fst {j0 j1 : Jv} (h : nameJ j0 = false) : inB n qs (.tup [j0, j1]) = false := by
  show (((Jv.tup [j0, j1]).is "tuple" && (decide (((itemsJ (.tup [j0, j1])).length : Int) = 2) && (nameJ j0 && unkJ n j1))) && decide (prOf (.tup [j0, j1]) ∈ qs)) = false
  rw [h, Bool.false_and, Bool.and_false, Bool.and_false]
  rfl
theorem in_snd {j0 j1 : Jv} (h : j1.is "tuple" = false) : inB n qs (.tup [j0, j1]) = false := by
  show (((Jv.tup [j0, j1]).is "tuple" && (decide (((itemsJ (.tup [j0, j1])).length : Int) = 2) && (nameJ j0 && (j1.is "tuple" && (decide ((1 : Int) ≤ ((itemsJ j1).length : Int)) && decide (((itemsJ j1).length : Int) ≤ 3) && (itemsJ j1).all (belowJ n)))))) && decide (prOf (.tup [j0, j1]) ∈ qs)) = false
  rw [h, Bool.false_and, Bool.and_false, Bool.and_false, Bool.and_false]
  rfl
theorem in_strange {x : Str} {j1 : Jv} (h : x ∉ qs.map Prod.fst) : inB n qs (.tup [.str x, j1]) = false := by
  show (appJ n (.tup [.str x, j1]) && decide ((x, intsJ j1) ∈ qs)) = false
  rw [decide_eq_false (fun z => h (List.mem_map.mpr ⟨_, z, rfl⟩)), Bool.and_false]
end
theorem PrsAt.dps {K : PySem.W.Frag} {H : Hp} : ∀ {vs : List V} {qs : List Pr}, PrsAt K H vs qs → DpAll K H vs (qs.map prD)
  | _, _, .nil => .nil
  | _, _, .cons h t => .cons h.td.dp (PrsAt.dps t)
theorem in_net {n : Nat} {qs : List Pr} {q : Pr} (hn : n ≤ 60) (g : GoodP n q) (h : q ∈ qs) : inB n qs (prJ q) = true := by
  have e : prOf (prJ q) = q := by
    show (q.1, intsJ (.tup (q.2.map Jv.int))) = q
    have z : intsJ (.tup (q.2.map Jv.int)) = q.2 := by
      show (q.2.map Jv.int).map valJ = q.2
      rw [List.map_map]
      have y : (valJ ∘ Jv.int) = id := rfl
      rw [y, List.map_id]
    rw [z]
  show (appJ n (prJ q) && decide (prOf (prJ q) ∈ qs)) = true
  rw [app_good hn g, e, decide_eq_true h]
  rfl
theorem sameN_upL {F : Hp} {D : Addr} {acc ys : List V} (e : F D = some (.lst acc)) : SameN F (upd F D (.lst ys)) := fun b o h n => by
  have ne : b ≠ D := fun z => by
    rw [z, e] at h
    cases h
    exact n _ rfl
  rw [upd_ne ne]
  exact h
section
variable {K : PySem.W.Frag} {F : Hp} {D : Addr} {acc ys : List V}
mutual
theorem Js.upL (e : F D = some (.lst acc)) : ∀ {v : V} {j : Jv}, Js K F v j → Js K (upd F D (.lst ys)) v j
  | _, _, .non => .non
  | _, _, .bl b => .bl b
  | _, _, .int i => .int i
  | _, _, .str x few => .str x few
  | _, _, @Js.lst _ _ a xs h => by
    by_cases z : a = D
    · subst z
      exact .lst upd_same
    · exact .lst (by rw [upd_ne z]; exact h)
  | _, _, .dic h => .dic (sameN_upL e _ _ h (fun _ z => nomatch z))
  | _, _, .obj h c => .obj (sameN_upL e _ _ h (fun _ z => nomatch z)) c
  | _, _, .tup h few r => .tup ((sameN_upL e).keepT.sqT h) few (JsAll.upL e r)
theorem JsAll.upL (e : F D = some (.lst acc)) : ∀ {vs : List V} {js : List Jv}, JsAll K F vs js → JsAll K (upd F D (.lst ys)) vs js
  | _, _, .nil => .nil
  | _, _, .cons h r => .cons (Js.upL e h) (JsAll.upL e r)
end
end
def BadS (K : PySem.W.Frag) (n : Nat) (qs : List Pr) (G : Hp) (vs : List V) : Prop := ∀ v ∈ vs, ∃ j, Js K G v j ∧ inB n qs j = false
theorem BadS.nil {K : PySem.W.Frag} {n : Nat} {qs : List Pr} {G : Hp} : BadS K n qs G [] := fun v h => by cases h
theorem BadS.snoc {K : PySem.W.Frag} {n : Nat} {qs : List Pr} {G : Hp} {vs : List V} {v : V} {j : Jv} (h : BadS K n qs G vs) (hj : Js K G v j) (e : inB n qs j = false) : BadS K n qs G (vs ++ [v]) := fun u hu => by
  rcases List.mem_append.mp hu with hu | hu
  · exact h u hu
  · rw [List.mem_singleton.mp hu]
    exact ⟨j, hj, e⟩
theorem BadS.app {K : PySem.W.Frag} {n : Nat} {qs : List Pr} {G : Hp} {vs ws : List V} (h : BadS K n qs G vs) (h2 : BadS K n qs G ws) : BadS K n qs G (vs ++ ws) := fun u hu => by
  rcases List.mem_append.mp hu with hu | hu
  · exact h u hu
  · exact h2 u hu
theorem BadS.same {K : PySem.W.Frag} {n : Nat} {qs : List Pr} {G F : Hp} {vs : List V} (s : Same G F) (h : BadS K n qs G vs) : BadS K n qs F vs := fun u hu => by
  obtain ⟨j, h1, h2⟩ := h u hu
  exact ⟨j, h1.same s, h2⟩
theorem BadS.upL {K : PySem.W.Frag} {n : Nat} {qs : List Pr} {F : Hp} {D : Addr} {acc ys vs : List V} (e : F D = some (.lst acc)) (h : BadS K n qs F vs) : BadS K n qs (upd F D (.lst ys)) vs := fun u hu => by
  obtain ⟨j, h1, h2⟩ := h u hu
  exact ⟨j, Js.upL e h1, h2⟩
/-- a list under way whose values are in no net -/
def OkB (K : PySem.W.Frag) (n : Nat) (qs : List Pr) (G : Hp) (D : Addr) (F : Hp) : Prop := Same G F ∧ ∀ acc, F D = some (.lst acc) → BadS K n qs F acc
theorem OkB.start {K : PySem.W.Frag} {n : Nat} {qs : List Pr} {G : Hp} {D : Addr} (nD : G D = none) : OkB K n qs G D (upd G D (.lst [])) := ⟨Same.newG nD, fun acc e => by
  rw [upd_same] at e
  cases e
  exact BadS.nil⟩
theorem OkB.step {K : PySem.W.Frag} {n : Nat} {qs : List Pr} {G F F2 : Hp} {D : Addr} {i : Nat} {acc : List V} {v : V} {j : Jv} (nD : G D = none) (ok : OkB K n qs G D F) (eD : F D = some (.lst acc)) (s : Same F F2) (le : acc.length ≤ i) (few : i ≤ 100) (hj : Js K F2 v j) (no : inB n qs j = false) : ∃ acc, F2 D = some (.lst acc) ∧ acc.length < sizeLine ∧ Nx (OkB K n qs G D) D (fun i acc => acc.length ≤ i) (i + 1) (upd F2 D (.lst (acc ++ [v]))) := by
  have e2 := s _ _ eD
  have W := ((ok.2 acc eD).same s).snoc hj no
  refine ⟨acc, e2, Nat.lt_of_le_of_lt le (small1000 (by omega)), acc ++ [v], ⟨(ok.1.trans s).upG nD, fun acc' e => ?_⟩, upd_same, by show (acc ++ [v]).length ≤ i + 1; rw [List.length_append]; show acc.length + 1 ≤ i + 1; omega⟩
  rw [upd_same] at e
  cases e
  exact W.upL e2
section
variable {P : Program} {w : World} {K : PySem.W.Frag} {mg : Str → Option Value} {base : Heap} {C D : Addr}
def rLisOf (K : PySem.W.Frag) : List V → Hp → VK → Prop := fun xs H Q => ∃ p ys, xs = [V.ref p] ∧ (SqL K H p ys ∨ SqT K H p ys) ∧ ∀ (l : Addr), H l = none → Q (V.ref l) (upd H l (HO.lst ys))
def spAllRight (K : PySem.W.Frag) (D : Addr) : Sp := fun vs H Q _ => ∃ (a p t t2 : Addr) (n : Nat) (qs : List Pr), vs = [.ref a, .ref p] ∧ NetAt K H D a n t qs ∧ PlnAt K H p t2 n qs ∧ ∀ G, Same H G → Q (.bl true) G
theorem ok_all_right {f : Addr} {fd : FuncData} (F : Fun K "_law_all_right" "_law_all_right" s_all_right f fd) (B : Blt mg) (N : Bn K mg D) (M1 : HasP P w K mg base D 1 "names" (spNmsN K D)) (M2 : HasM P w K mg base D 6 "__contains__" ["self", "value"] (spInN K D)) (M3 : HasM P w K mg base D 1 "__len__" ["self"] (spLenN K D)) (I0 : HasI P w K mg base D) (C1 : HasG P w K mg base 3 "_law_is_net" ["_law_made", "_law_plain"] (spIsNet K D)) (C3 : Has P w K mg base 1 "_law_spare" ["_law_names"] (spSpare K)) : FnG P w K mg base CX0 8 f fd ["_law_made", "_law_plain"] (spAllRight K D) := by
  obtain ⟨p1, g1, fd1, Pr_names, G_names, b_names⟩ := M1.ex
  obtain ⟨f2, fd2, G_contains, D_contains, _, b_contains⟩ := M2.ex
  obtain ⟨f3, fd3, G_len, D_len, _, b_len⟩ := M3.ex
  obtain ⟨f4, fd4, G_iter, D_iter, b_iter⟩ := I0.ex
  obtain ⟨f5, fd5, G_is_net, g_is_net, k_is_net, b_is_net⟩ := C1.ex
  obtain ⟨f7, fd7, G_spare, g_spare, k_spare, b_spare⟩ := C3.ex
  refine def_ok F sc_all_right (fun vs H Q E h => ?_) (fun cdv A outer s H vs Q E hr hgd0 h => ?_)
  · obtain ⟨a, p, t, t2, n, qs, rfl, _⟩ := h
    rfl
  obtain ⟨a, p, t, t2, n, qs, rfl, ha, hp, q⟩ := h
  have hgd : (A.deeper (envOfC "_law_all_right" (defScope s_all_right) s.heap.objs.size f cdv)).guards = some [] := hgd0
  refine ⟨_, (pss_cons (ps_set (i := 2) sc_all_right.nd rfl (.inl rfl) (pe_callB (call_sortS rfl) (by rfl) B.sorted_ (by decide +kernel) (pa_cons (pe_callTy (call_setS rfl) (by rfl) B.set_ (by decide +kernel) (pa_cons (pe_lc (own := [("_law_one", 5)]) (g := gName 5) (tt := tYes) (te := (tOp (rIxT K) (tVar 5) (tC (.int 0)))) rfl sc_all_right.nd (pi_tup (pe_dget (hu_of hr) (pv 1) pe_str (fun _ _ => rfl))) (blkOk_by (own := [("_law_one", 5)]) (N := nm_all_right) (sc := defScope s_all_right) (by decide +kernel)) (fun _ _ _ _ _ => (pg_name (i := 5) sc_all_right.nd rfl (.inl rfl))) (fun _ _ _ _ _ => pts_nil) (fun _ _ _ _ _ => (pe_ix ix_tup (pv 5) pe_int (fun _ _ => rfl)))) pa_nil)) pa_nil)))
  (pss_cons (ps_if (PW.pt (pw_or (pt_not (pt_val (call_ok G_is_net (hr.mono (by decide)) hgd (by rfl) g_is_net k_is_net b_is_net pass0 (pa_cons (pv 0) (pa_cons (pv 1) pa_nil))))) (pw_or (pt_cmpR op_ne (pe_callB (call_repr hgd hr.units) (by rfl) B.repr_ (by decide +kernel) (pa_cons (pe_prop (pv 0) N.cl Pr_names G_names (hr.mono (by decide)) b_names .nil pass0 rfl) pa_nil)) (pe_callB (call_repr hgd hr.units) (by rfl) B.repr_ (by decide +kernel) (pa_cons (pe_callTy call_tuple_of (by rfl) B.tuple_ (by decide +kernel) (pa_cons (pv 2) pa_nil)) pa_nil)) (nomark _)) (pw_or1 (pt_cmpR op_ne (pe_callB (call_lenOwn G_len (hr.mono (by decide)) b_len pass0 D_len) (by rfl) B.len_ (by decide +kernel) (pa_cons (pv 0) pa_nil)) (pe_callB call_len_seq (by rfl) B.len_ (by decide +kernel) (pa_cons (pe_dget (hu_of hr) (pv 1) pe_str (fun _ _ => rfl)) pa_nil)) (nomark _)))))) (pss_one (ps_ret pe_bl)) pss_nil)
  (pss_cons (ps_if (PW.pt (pw_or (pt_cmpR (op_neP hr.units) (pe_lc (own := [("_law_one", 5)]) (g := gName 5) (tt := tYes) (te := tVar 5) rfl sc_all_right.nd (pi_own (pv 0) G_iter (hr.mono (by decide)) b_iter pass0 D_iter) (blkOk_by (own := [("_law_one", 5)]) (N := nm_all_right) (sc := defScope s_all_right) (by decide +kernel)) (fun _ _ _ _ _ => (pg_name (i := 5) sc_all_right.nd rfl (.inl rfl))) (fun _ _ _ _ _ => pts_nil) (fun _ _ _ _ _ => (pv 5))) (pe_callTy call_list_of (by rfl) B.list_ (by decide +kernel) (pa_cons (pe_dget (hu_of hr) (pv 1) pe_str (fun _ _ => rfl)) pa_nil)) (nomark _)) (pw_or1 (pt_cmpR (op_neNil hr.units0) (pe_lc (own := [("_law_one", 5)]) (g := gName 5) (tt := tTest (tOp (rInOwn D (spInN K D) E0 true) (tVar 5) (tVar 0))) (te := tVar 5) rfl sc_all_right.nd (pi_tup (pe_dget (hu_of hr) (pv 1) pe_str (fun _ _ => rfl))) (blkOk_by (own := [("_law_one", 5)]) (N := nm_all_right) (sc := defScope s_all_right) (by decide +kernel)) (fun _ _ _ _ _ => (pg_name (i := 5) sc_all_right.nd rfl (.inl rfl))) (fun _ _ _ _ _ => (pts_one (pt_cmpR (op_notInOwn G_contains (hr.mono (by decide)) b_contains pass0 D_contains) (pv 5) (pv 0) rfl))) (fun _ _ _ _ _ => (pv 5))) (pe_lst pa_nil) (nomark _))))) (pss_one (ps_ret pe_bl)) pss_nil)
  (pss_cons (ps_set (i := 3) sc_all_right.nd rfl (.inl rfl) (pe_call G_spare (hr.mono (by decide)) (by rfl) g_spare k_spare b_spare .nil pass0 (pa_cons (pv 2) pa_nil)))
  (pss_cons (ps_set (i := 4) sc_all_right.nd rfl (.inl rfl) (pe_lst (pa_cons pe_non (pa_cons pe_int (pa_cons pe_str (pa_cons (pe_tup pa_nil) (pa_cons (pe_tup (pa_cons (pv 3) (pa_cons (pe_tup (pa_cons pe_int pa_nil)) pa_nil))) (pa_cons (pe_tup (pa_cons pe_str (pa_cons (pe_tup (pa_cons pe_int pa_nil)) pa_nil))) (pa_cons (pe_tup (pa_cons pe_str (pa_cons pe_int pa_nil))) (pa_cons (pe_lst (pa_cons (pv 3) (pa_cons (pe_tup (pa_cons pe_int pa_nil)) pa_nil))) (pa_cons pe_dnewK (pa_cons (pe_tup (pa_cons (pv 3) (pa_cons (pe_tup pa_nil) pa_nil))) (pa_cons (pe_tup (pa_cons (pv 3) (pa_cons (pe_tup (pa_cons pe_bl pa_nil)) pa_nil))) (pa_cons (pe_tup (pa_cons pe_int (pa_cons (pe_tup (pa_cons pe_int pa_nil)) pa_nil))) (pa_cons (pv 3) pa_nil)))))))))))))))
  (pss_cons (ps_set (i := 4) sc_all_right.nd rfl (.inl rfl) (pe_op op_cat (pe_op op_cat (pv 4) (pe_lc (own := [("_law_one", 5)]) (g := gName 5) (tt := tYes) (te := tTup (tCons (tOp (rIxT K) (tVar 5) (tC (.int 0))) (tCons (tCB (rLisOf K) (tCons (tOp (rIxT K) (tVar 5) (tC (.int 1))) tNil)) tNil))) rfl sc_all_right.nd (pi_tup (pe_slice sl_tupU (pe_dget (hu_of hr) (pv 1) pe_str (fun _ _ => rfl)) po_none (po_some pe_int))) (blkOk_by (own := [("_law_one", 5)]) (N := nm_all_right) (sc := defScope s_all_right) (by decide +kernel)) (fun _ _ _ _ _ => (pg_name (i := 5) sc_all_right.nd rfl (.inl rfl))) (fun _ _ _ _ _ => pts_nil) (fun _ _ _ _ _ => (pe_tup (pa_cons (pe_ix ix_tup (pv 5) pe_int (fun _ _ => rfl)) (pa_cons (pe_callTy call_list_of (by rfl) B.list_ (by decide +kernel) (pa_cons (pe_ix ix_tup (pv 5) pe_int (fun _ _ => rfl)) pa_nil)) pa_nil)))))) (pe_lc (own := [("_law_one", 5)]) (g := gName 5) (tt := tYes) (te := tTup (tCons (tOp (rIxT K) (tVar 5) (tC (.int 0))) (tCons (tOp (rIxT K) (tVar 5) (tC (.int 1))) (tCons (tC (.int 0)) tNil)))) rfl sc_all_right.nd (pi_tup (pe_slice sl_tupU (pe_dget (hu_of hr) (pv 1) pe_str (fun _ _ => rfl)) po_none (po_some pe_int))) (blkOk_by (own := [("_law_one", 5)]) (N := nm_all_right) (sc := defScope s_all_right) (by decide +kernel)) (fun _ _ _ _ _ => (pg_name (i := 5) sc_all_right.nd rfl (.inl rfl))) (fun _ _ _ _ _ => pts_nil) (fun _ _ _ _ _ => (pe_tup (pa_cons (pe_ix ix_tup (pv 5) pe_int (fun _ _ => rfl)) (pa_cons (pe_ix ix_tup (pv 5) pe_int (fun _ _ => rfl)) (pa_cons pe_int pa_nil))))))))
  (pss_one (ps_ret (pe_cmpR (op_eqNil hr.units0) (pe_lc (own := [("_law_value", 6)]) (g := gName 6) (tt := tTest (tOp (rInOwn D (spInN K D) E0 false) (tVar 6) (tVar 0))) (te := tVar 6) rfl sc_all_right.nd (pi_list (pv 4)) (blkOk_by (own := [("_law_value", 6)]) (N := nm_all_right) (sc := defScope s_all_right) (by decide +kernel)) (fun _ _ _ _ _ => (pg_name (i := 6) sc_all_right.nd rfl (.inl rfl))) (fun _ _ _ _ _ => (pts_one (pt_cmpR (op_inOwn G_contains (hr.mono (by decide)) b_contains pass0 D_contains) (pv 6) (pv 0) rfl))) (fun _ _ _ _ _ => (pv 6))) (pe_lst pa_nil) (nomark _)))))))))), ?_⟩
  obtain ⟨⟨dx, hA⟩, tsA, hSA, hqA⟩ := id ha
  obtain ⟨ts, hS, hq⟩ := id hp.ts
  have hl := hq.len
  have few := hp.ok.few
  refine ⟨.ref p, rfl, p, .ref t2, rfl, dget_ties (.inl hp.at_), t2, rfl, ⟨ts, hS⟩, fun D1 nD => ?_⟩
  refine lc_tupG (xs := ts) (Same H) (fun i acc => acc = ((qs.take i).map Prod.fst).map V.str) (fun G z => z.tupS hS) (Same.newG nD) rfl (fun i v G hi nx hv => ?_) (fun G acc sm eD ea => ?_)
  · obtain ⟨acc, sm, eD, ea⟩ := nx
    obtain ⟨q', eq', pq⟩ := hq.get hv
    obtain ⟨a1, b1, rfl, h1, h2⟩ := pq.mv (SameN.of sm).keepT
    refine ⟨rfl, tyes ⟨.ref a1, rfl, a1, _, 0, _, rfl, rfl, h1, rfl, nx_put (fun F o z => z.upG nD) sm eD ?_ ?_⟩⟩
    · rw [ea, List.length_map, List.length_map, List.length_take]
      omega
    · rw [ea]
      exact strs_take qs i q' eq'
  have ea : acc = ((qs.take ts.length).map Prod.fst).map V.str := ea
  rw [hl, List.take_length] at ea
  subst ea
  have sm : Same H G := sm
  refine ⟨D1, qs.map Prod.fst, rfl, SqL.of eD, by rw [List.length_map]; omega, fun p0 np => ⟨p0, _, _, rfl, upd_same, by rw [List.length_map]; omega, fun ys l nd srt mem len nl => ?_⟩⟩
  rw [List.length_map] at len
  have lp : l ≠ p0 := fun z => by
    rw [z, upd_same] at nl
    cases nl
  have nl1 : G l = none := by
    rw [upd_ne lp] at nl
    exact nl
  have s1 : ∀ o, Same H (upd (upd G p0 o) l (.lst (ys.map V.str))) := fun o => (sm.trans (Same.newG np)).trans (Same.newG (by rw [upd_ne lp]; exact nl1))
  have e1 : ∀ o, (upd (upd G p0 o) l (.lst (ys.map V.str))) l = some (.lst (ys.map V.str)) := fun o => upd_same
  obtain ⟨ns4, n4, in4⟩ := hp.four
  have nmy : ∀ x ∈ ys, Nm x := fun x hx => by
    obtain ⟨z, hz, rfl⟩ := List.mem_map.mp ((mem x).mp hx)
    exact (hp.ok.good z hz).nm
  have y4 : ys.length ≤ 4 := Nat.le_trans (nodup_le nd fun x hx => by
    obtain ⟨z, hz, rfl⟩ := List.mem_map.mp ((mem x).mp hx)
    exact in4 z hz) n4
  have yx : ∀ x ∈ ys, x.length ≤ 1000 := fun x hx => by have := (nmy x hx).2.1; omega
  have smy := sm_names nmy
  refine ⟨.ref a, rfl, .ref p, rfl, a, p, t, t2, n, qs, rfl, ha.sameN (SameN.of (s1 _)), hp.same (SameN.of (s1 _)), fun G2 s2 => ⟨true, rfl, iteF ?_⟩⟩
  have s02 : Same H G2 := (s1 _).trans s2
  have e2 : G2 l = some (.lst (ys.map V.str)) := s2 _ _ (e1 _)
  clear s2
  refine ⟨.ref a, rfl, a, dx, _, rfl, s02 _ _ hA, a, t, n, qs, rfl, ha.sameN (SameN.of s02), few, fun G3 l3 ys3 s3 e3 nd3 srt3 mem3 len3 => ?_⟩
  have s3 : Same G2 G3 := s3
  have s03 : Same H G3 := s02.trans s3
  have ey : ys3 = ys := nodup_sorted_uniq nd3 nd srt3 srt (fun x => (mem3 x).trans (mem x).symm)
  subst ey
  have td3 : Dp K G3 (.ref l3) (.tuple (ys3.map PyData.str)) := .tup (.inl (.inl e3)) (dp_strs _)
  have e3l := s3 _ _ e2
  refine ⟨l3, _, rfl, td3, smy.sh, smy.nd, smy.r1 (by decide), smy.r2 (by have := y4; omega), .ref l, rfl, l, _, rfl, .inl ⟨SqL.of e3l, fun tu ntu => ?_⟩⟩
  have s4 : Same G3 (upd G3 tu (.tup (ys3.map V.str))) := Same.newG ntu
  have e4 : (upd G3 tu (.tup (ys3.map V.str))) tu = some (.tup (ys3.map V.str)) := upd_same
  generalize upd G3 tu (.tup (ys3.map V.str)) = G4 at s4 e4 ⊢
  have td4 : Dp K G4 (.ref tu) (.tuple (ys3.map PyData.str)) := .tup (.inl (.inl e4)) (dp_strs _)
  refine ⟨tu, _, rfl, td4, smy.sh, smy.nd, smy.r1 (by decide), smy.r2 (by have := y4; omega), rfl, _, rfl, ?_⟩
  rw [decide_eq_true rfl]
  have s04 : Same H G4 := s03.trans s4
  have e4l := s4 _ _ e3l
  refine iteF ⟨.ref a, rfl, a, dx, _, rfl, s04 _ _ hA, a, t, n, qs, rfl, ha.sameN (SameN.of s04), _, rfl, by omega, by omega, .ref p, rfl, p, .ref t2, rfl, dget_ties (.inl (s04 _ _ hp.at_)), t2, ts, rfl, .inr (s04.tupS hS), rfl, _, rfl, ?_⟩
  rw [hl, decide_eq_true rfl]
  refine iteF ⟨.ref a, rfl, a, dx, _, t, tsA, rfl, s04 _ _ hA, ⟨dx, _, s04 _ _ hA, nf_ties _ _⟩, s04.tupS hSA, fun D nD => ?_⟩
  refine lc_tupG (xs := tsA) (Same G4) (fun i acc => acc = tsA.take i) (fun G s => Same.tupS s (s04.tupS hSA)) (Same.newG nD) rfl (fun i v G hi nx hv => ?_) (fun G5 acc s5 eD ea => ?_)
  · obtain ⟨acc, sG, eD, ea⟩ := nx
    refine ⟨rfl, tyes ⟨v, rfl, nx_put (fun F o z => z.upG nD) sG eD ?_ ?_⟩⟩
    · rw [ea, List.length_take, hqA.len]
      omega
    · show acc ++ [v] = _
      rw [ea, List.take_add_one, hv]
      rfl
  have ea : acc = tsA := by
    have z : acc = tsA.take tsA.length := ea
    rw [List.take_length] at z
    exact z
  subst ea
  have s5 : Same G4 G5 := s5
  have s05 : Same H G5 := s04.trans s5
  refine ⟨.ref p, rfl, p, .ref t2, rfl, dget_ties (.inl (s05 _ _ hp.at_)), t2, ts, rfl, .inr (s05.tupS hS), fun l6 nl6 => ?_⟩
  have s6 : Same G5 (upd G5 l6 (.lst ts)) := Same.newG nl6
  have e6 : (upd G5 l6 (.lst ts)) l6 = some (.lst ts) := upd_same
  generalize upd G5 l6 (.lst ts) = G6 at s6 e6 ⊢
  have s06 : Same H G6 := s05.trans s6
  refine ⟨.list (qs.map prD), .list (qs.map prD), .lst (SqL.of (s6 _ _ eD)) (hqA.mv (SameN.of s06).keepT).dps, .lst (SqL.of e6) (hq.mv (SameN.of s06).keepT).dps, plain_prs qs, plain_prs qs, Nat.le_trans (depth_prs qs) (by decide), _, rfl, ?_⟩
  have er : PyData.eqv (.list (qs.map prD)) (.list (qs.map prD)) = true := SeqAt.eqv_refl_plain _ (plain_prs qs)
  rw [if_pos rfl, er]
  have e6l := s6 _ _ (s5 _ _ e4l)
  refine iteF ⟨.ref p, rfl, p, .ref t2, rfl, dget_ties (.inl (s06 _ _ hp.at_)), t2, rfl, ⟨ts, s06.tupS hS⟩, fun D2 nD2 => ?_⟩
  refine lc_tupG (xs := ts) (Same G6) (fun i acc => acc = []) (fun G s => Same.tupS s (s06.tupS hS)) (Same.newG nD2) rfl (fun i v G hi nx hv => ?_) (fun G7 acc s7 eD2 ea => ?_)
  · obtain ⟨acc, sG, eD, ea⟩ := nx
    obtain ⟨q', eq', pq⟩ := hq.get hv
    have sG0 : Same H G := s06.trans sG
    have hm : q' ∈ qs := List.mem_of_getElem? eq'
    have g' := hp.ok.good q' hm
    refine ⟨rfl, v, rfl, .ref a, rfl, a, dx, _, rfl, sG0 _ _ hA, a, t, n, qs, _, _, rfl, ha.sameN (SameN.of sG0), hp.ok, (pq.mv (SameN.of sG0).keepT).js (by have := g'.nm.2.1; omega) (by have := g'.few; omega), fun F sF => ⟨_, rfl, ?_⟩⟩
    rw [in_net hp.ok.n60 g' hm]
    have sF : Same G F := sF
    exact ⟨_, rfl, iteF ⟨acc, sG.trans sF, sF _ _ eD, ea⟩⟩
  have ea : acc = [] := ea
  subst ea
  have s7 : Same G6 G7 := s7
  refine ⟨by show 0 ≤ sizeLine; decide, fun l0 nl0 => ⟨D2, l0, [], rfl, rfl, SqL.of ((Same.newG nl0) _ _ eD2), SqL.of upd_same, _, rfl, iteF ?_⟩⟩
  have s8 : Same G6 (upd G7 l0 (.lst [])) := s7.trans (Same.newG nl0)
  generalize upd G7 l0 (.lst []) = G8 at s8 ⊢
  have s08 : Same H G8 := s06.trans s8
  have e8l := s8 _ _ e6l
  refine ⟨.ref l, rfl, l, ys3, rfl, .inl (SqL.of e8l), by omega, fun B0 sB0 => ?_⟩
  have sB0 : Same G8 B0 := sB0
  obtain ⟨zn, zc⟩ := spare_not (ns := ys3) (by omega)
  have zl : (spareOf ys3).length ≤ 1000 := (by decide +kernel : ∀ x ∈ cands, x.length ≤ 1000) _ zc
  have zno : spareOf ys3 ∉ qs.map Prod.fst := fun z => zn ((mem _).mpr z)
  generalize spareOf ys3 = zz at zl zno ⊢
  have sb0 : Same H B0 := s08.trans sB0
  clear s1 e1 s02 e2 e3 s3 s03 td3 e3l s4 e4 td4 s04 e4l s5 s05 s6 e6 s06 er e6l s7 s8 s08 e8l sB0
  have noA : ("A" : Str) ∉ qs.map Prod.fst := fun z => by
    obtain ⟨x, hx, e⟩ := List.mem_map.mp z
    have g := (hp.ok.good x hx).nm
    rw [e] at g
    exact absurd (g.2.2 65 (by decide +kernel)) (by decide +kernel)
  have W : BadS K n qs B0 [] := BadS.nil
  have W := W.snoc (v := .non) (.non) (in_no_tuple is_non_tuple)
  have W := W.snoc (v := .int 0) (.int 0) (in_no_tuple (is_int_tuple _))
  have W := W.snoc (v := .str "") (.str "" (by decide)) (in_no_tuple (is_str_tuple _))
  refine ⟨by show 0 ≤ sizeLine; decide, fun t0 nt0 => ?_⟩
  have st0 : Same B0 (upd B0 t0 (.tup [])) := Same.newG nt0
  have et0 : (upd B0 t0 (.tup [])) t0 = some (.tup []) := upd_same
  generalize upd B0 t0 (.tup []) = B1 at st0 et0 ⊢
  have W := W.same st0
  have sb0 := sb0.trans st0
  have W := W.snoc (v := .ref t0) (.tup (.inl (.inl et0)) (Nat.zero_le _) .nil) (in_len (by decide))
  refine ⟨.str zz, rfl, by show 1 ≤ sizeLine; decide, fun it1 nit1 => ?_⟩
  have sit1 : Same B1 (upd B1 it1 (.tup [.int 0])) := Same.newG nit1
  have eit1 : (upd B1 it1 (.tup [.int 0])) it1 = some (.tup [.int 0]) := upd_same
  generalize upd B1 it1 (.tup [.int 0]) = B2 at sit1 eit1 ⊢
  have W := W.same sit1
  have sb0 := sb0.trans sit1
  refine ⟨by show 2 ≤ sizeLine; decide, fun t1 nt1 => ?_⟩
  have st1 : Same B2 (upd B2 t1 (.tup [.str zz, .ref it1])) := Same.newG nt1
  have et1 : (upd B2 t1 (.tup [.str zz, .ref it1])) t1 = some (.tup [.str zz, .ref it1]) := upd_same
  generalize upd B2 t1 (.tup [.str zz, .ref it1]) = B3 at st1 et1 ⊢
  have W := W.same st1
  have sb0 := sb0.trans st1
  have W := W.snoc (v := .ref t1) (.tup (.inl (.inl et1)) (by show 2 ≤ 1000; decide) (.cons (.str zz zl) (.cons (.tup (.inl (.inl (st1 _ _ eit1))) (by show 1 ≤ 1000; decide) (.cons (.int 0) .nil)) .nil))) (in_strange zno)
  refine ⟨by show 1 ≤ sizeLine; decide, fun it2' nit2' => ?_⟩
  have sit2' : Same B3 (upd B3 it2' (.tup [.int 0])) := Same.newG nit2'
  have eit2' : (upd B3 it2' (.tup [.int 0])) it2' = some (.tup [.int 0]) := upd_same
  generalize upd B3 it2' (.tup [.int 0]) = B4 at sit2' eit2' ⊢
  have W := W.same sit2'
  have sb0 := sb0.trans sit2'
  refine ⟨by show 2 ≤ sizeLine; decide, fun t2' nt2' => ?_⟩
  have st2' : Same B4 (upd B4 t2' (.tup [.str "A", .ref it2'])) := Same.newG nt2'
  have et2' : (upd B4 t2' (.tup [.str "A", .ref it2'])) t2' = some (.tup [.str "A", .ref it2']) := upd_same
  generalize upd B4 t2' (.tup [.str "A", .ref it2']) = B5 at st2' et2' ⊢
  have W := W.same st2'
  have sb0 := sb0.trans st2'
  have W := W.snoc (v := .ref t2') (.tup (.inl (.inl et2')) (by show 2 ≤ 1000; decide) (.cons (.str "A" (by decide)) (.cons (.tup (.inl (.inl (st2' _ _ eit2'))) (by show 1 ≤ 1000; decide) (.cons (.int 0) .nil)) .nil))) (in_strange noA)
  refine ⟨by show 2 ≤ sizeLine; decide, fun t3 nt3 => ?_⟩
  have st3 : Same B5 (upd B5 t3 (.tup [.str "zz", .int 0])) := Same.newG nt3
  have et3 : (upd B5 t3 (.tup [.str "zz", .int 0])) t3 = some (.tup [.str "zz", .int 0]) := upd_same
  generalize upd B5 t3 (.tup [.str "zz", .int 0]) = B6 at st3 et3 ⊢
  have W := W.same st3
  have sb0 := sb0.trans st3
  have W := W.snoc (v := .ref t3) (.tup (.inl (.inl et3)) (by show 2 ≤ 1000; decide) (.cons (.str "zz" (by decide)) (.cons (.int 0) .nil))) (in_snd (is_int_tuple _))
  refine ⟨.str zz, rfl, by show 1 ≤ sizeLine; decide, fun i4 ni4 => ?_⟩
  have si4 : Same B6 (upd B6 i4 (.tup [.int 0])) := Same.newG ni4
  have ei4 : (upd B6 i4 (.tup [.int 0])) i4 = some (.tup [.int 0]) := upd_same
  generalize upd B6 i4 (.tup [.int 0]) = B7 at si4 ei4 ⊢
  have W := W.same si4
  have sb0 := sb0.trans si4
  refine ⟨by show 2 ≤ sizeLine; decide, fun t4 nt4 => ?_⟩
  have st4 : Same B7 (upd B7 t4 (.lst [.str zz, .ref i4])) := Same.newG nt4
  have et4 : (upd B7 t4 (.lst [.str zz, .ref i4])) t4 = some (.lst [.str zz, .ref i4]) := upd_same
  generalize upd B7 t4 (.lst [.str zz, .ref i4]) = B8 at st4 et4 ⊢
  have W := W.same st4
  have sb0 := sb0.trans st4
  have W := W.snoc (v := .ref t4) (.lst et4) (in_no_tuple is_lst_tuple)
  refine fun t5 nt5 => ?_
  have st5 : Same B8 (upd B8 t5 (.dK [])) := Same.newG nt5
  have et5 : (upd B8 t5 (.dK [])) t5 = some (.dK []) := upd_same
  generalize upd B8 t5 (.dK []) = B9 at st5 et5 ⊢
  have W := W.same st5
  have sb0 := sb0.trans st5
  have W := W.snoc (v := .ref t5) (.dic et5) (in_no_tuple is_dic_tuple)
  refine ⟨.str zz, rfl, by show 0 ≤ sizeLine; decide, fun it6 nit6 => ?_⟩
  have sit6 : Same B9 (upd B9 it6 (.tup [])) := Same.newG nit6
  have eit6 : (upd B9 it6 (.tup [])) it6 = some (.tup []) := upd_same
  generalize upd B9 it6 (.tup []) = B10 at sit6 eit6 ⊢
  have W := W.same sit6
  have sb0 := sb0.trans sit6
  refine ⟨by show 2 ≤ sizeLine; decide, fun t6 nt6 => ?_⟩
  have st6 : Same B10 (upd B10 t6 (.tup [.str zz, .ref it6])) := Same.newG nt6
  have et6 : (upd B10 t6 (.tup [.str zz, .ref it6])) t6 = some (.tup [.str zz, .ref it6]) := upd_same
  generalize upd B10 t6 (.tup [.str zz, .ref it6]) = B11 at st6 et6 ⊢
  have W := W.same st6
  have sb0 := sb0.trans st6
  have W := W.snoc (v := .ref t6) (.tup (.inl (.inl et6)) (by show 2 ≤ 1000; decide) (.cons (.str zz zl) (.cons (.tup (.inl (.inl (st6 _ _ eit6))) (Nat.zero_le _) .nil) .nil))) (in_strange zno)
  refine ⟨.str zz, rfl, by show 1 ≤ sizeLine; decide, fun it7 nit7 => ?_⟩
  have sit7 : Same B11 (upd B11 it7 (.tup [.bl true])) := Same.newG nit7
  have eit7 : (upd B11 it7 (.tup [.bl true])) it7 = some (.tup [.bl true]) := upd_same
  generalize upd B11 it7 (.tup [.bl true]) = B12 at sit7 eit7 ⊢
  have W := W.same sit7
  have sb0 := sb0.trans sit7
  refine ⟨by show 2 ≤ sizeLine; decide, fun t7 nt7 => ?_⟩
  have st7 : Same B12 (upd B12 t7 (.tup [.str zz, .ref it7])) := Same.newG nt7
  have et7 : (upd B12 t7 (.tup [.str zz, .ref it7])) t7 = some (.tup [.str zz, .ref it7]) := upd_same
  generalize upd B12 t7 (.tup [.str zz, .ref it7]) = B13 at st7 et7 ⊢
  have W := W.same st7
  have sb0 := sb0.trans st7
  have W := W.snoc (v := .ref t7) (.tup (.inl (.inl et7)) (by show 2 ≤ 1000; decide) (.cons (.str zz zl) (.cons (.tup (.inl (.inl (st7 _ _ eit7))) (by show 1 ≤ 1000; decide) (.cons (.bl true) .nil)) .nil))) (in_strange zno)
  refine ⟨by show 1 ≤ sizeLine; decide, fun it8 nit8 => ?_⟩
  have sit8 : Same B13 (upd B13 it8 (.tup [.int 0])) := Same.newG nit8
  have eit8 : (upd B13 it8 (.tup [.int 0])) it8 = some (.tup [.int 0]) := upd_same
  generalize upd B13 it8 (.tup [.int 0]) = B14 at sit8 eit8 ⊢
  have W := W.same sit8
  have sb0 := sb0.trans sit8
  refine ⟨by show 2 ≤ sizeLine; decide, fun t8 nt8 => ?_⟩
  have st8 : Same B14 (upd B14 t8 (.tup [.int 0, .ref it8])) := Same.newG nt8
  have et8 : (upd B14 t8 (.tup [.int 0, .ref it8])) t8 = some (.tup [.int 0, .ref it8]) := upd_same
  generalize upd B14 t8 (.tup [.int 0, .ref it8]) = B15 at st8 et8 ⊢
  have W := W.same st8
  have sb0 := sb0.trans st8
  have W := W.snoc (v := .ref t8) (.tup (.inl (.inl et8)) (by show 2 ≤ 1000; decide) (.cons (.int 0) (.cons (.tup (.inl (.inl (st8 _ _ eit8))) (by show 1 ≤ 1000; decide) (.cons (.int 0) .nil)) .nil))) (in_fst rfl)
  have W := W.snoc (v := .str zz) (.str zz zl) (in_no_tuple (is_str_tuple _))
  have W : BadS K n qs B15 [.non, .int 0, .str "", .ref t0, .ref t1, .ref t2', .ref t3, .ref t4, .ref t5, .ref t6, .ref t7, .ref t8, .str zz] := W
  refine ⟨.str zz, rfl, by show 13 ≤ sizeLine; decide, fun lo nlo => ?_⟩
  have slo : Same B15 (upd B15 lo (.lst [.non, .int 0, .str "", .ref t0, .ref t1, .ref t2', .ref t3, .ref t4, .ref t5, .ref t6, .ref t7, .ref t8, .str zz])) := Same.newG nlo
  have elo : (upd B15 lo (.lst [.non, .int 0, .str "", .ref t0, .ref t1, .ref t2', .ref t3, .ref t4, .ref t5, .ref t6, .ref t7, .ref t8, .str zz])) lo = some (.lst [.non, .int 0, .str "", .ref t0, .ref t1, .ref t2', .ref t3, .ref t4, .ref t5, .ref t6, .ref t7, .ref t8, .str zz]) := upd_same
  generalize upd B15 lo (.lst [.non, .int 0, .str "", .ref t0, .ref t1, .ref t2', .ref t3, .ref t4, .ref t5, .ref t6, .ref t7, .ref t8, .str zz]) = B16 at slo elo ⊢
  have W := W.same slo
  have sb0 := sb0.trans slo
  have few13 : ([.non, .int 0, .str "", .ref t0, .ref t1, .ref t2', .ref t3, .ref t4, .ref t5, .ref t6, .ref t7, .ref t8, .str zz] : List V).length ≤ 13 := Nat.le_refl _
  generalize ([.non, .int 0, .str "", .ref t0, .ref t1, .ref t2', .ref t3, .ref t4, .ref t5, .ref t6, .ref t7, .ref t8, .str zz] : List V) = odds at W few13 elo ⊢
  have hP := hp.same (SameN.of sb0)
  have hSb := sb0.tupS hS
  have hqb := hq.mv (SameN.of sb0).keepT
  have e3n : (3 : Int) = ((3 : Nat) : Int) := rfl
  refine ⟨.ref lo, rfl, .ref p, rfl, p, .ref t2, rfl, dget_ties (.inl hP.at_), 3, rfl, t2, ts, rfl, hSb, fun b1 C1 sc1 hb1 => ?_⟩
  rw [e3n, cut_to] at hb1
  have sc1 : Same _ C1 := sc1
  have scH := sb0.trans sc1
  have hq1 := (hq.mv (SameN.of scH).keepT).take 3
  have tl3 : (ts.take 3).length ≤ 3 := by rw [List.length_take]; omega
  refine ⟨b1, rfl, ⟨_, hb1⟩, fun D4 nD4 => ?_⟩
  refine lc_tupG (xs := ts.take 3) (OkB K n qs C1 D4) (fun i acc => acc.length ≤ i) (fun G s => Same.tupS s.1 hb1) (OkB.start nD4) (Nat.le_refl _) (fun i v G hi nx hv => ?_) (fun C2 acc1 sc2 eD4 la1 => ?_)
  · obtain ⟨acc, ok, eD, le⟩ := nx
    obtain ⟨q', eq', pq⟩ := hq1.get hv
    have hm : q' ∈ qs := List.take_subset _ _ (List.mem_of_getElem? eq')
    have g' := hp.ok.good q' hm
    obtain ⟨a1, b2, rfl, h1, h2⟩ := pq.mv (SameN.of ok.1).keepT
    refine ⟨rfl, tyes ⟨.ref a1, rfl, a1, _, 0, _, rfl, rfl, h1, rfl, .ref a1, rfl, a1, _, 1, _, rfl, rfl, h1, rfl, b2, _, rfl, .inr h2, fun l5 nl5 => ⟨by show 2 ≤ sizeLine; decide, fun u nu => ?_⟩⟩⟩
    exact ok.step nD4 eD ((Same.newG nl5).trans (Same.newG nu)) le (by omega) (.tup (.inl (.inl upd_same)) (by show 2 ≤ 1000; decide) (.cons (.str q'.1 (by have := g'.nm.2.1; omega)) (.cons (.lst ((Same.newG nu) _ _ upd_same)) .nil))) (in_snd is_lst_tuple)
  have la1 : acc1.length ≤ (ts.take 3).length := la1
  have sC2 : Same C1 C2 := sc2.1
  have W1 := sc2.2 acc1 eD4
  have scH2 := scH.trans sC2
  have W0 := (W.same sc1).same sC2
  refine ⟨lo, D4, odds, acc1, rfl, rfl, sC2 _ _ (sc1 _ _ elo), eD4, Nat.le_of_lt (small1000 (by omega)), fun l7 nl7 => ?_⟩
  have W2 := (W0.app W1).same (Same.newG (o := .lst (odds ++ acc1)) nl7)
  have s7 : Same C2 (upd C2 l7 (.lst (odds ++ acc1))) := Same.newG nl7
  have e7 : (upd C2 l7 (.lst (odds ++ acc1))) l7 = some (.lst (odds ++ acc1)) := upd_same
  generalize upd C2 l7 (.lst (odds ++ acc1)) = C3 at W2 s7 e7 ⊢
  have scH3 := scH2.trans s7
  have hP3 := hp.same (SameN.of scH3)
  refine ⟨.ref p, rfl, p, .ref t2, rfl, dget_ties (.inl hP3.at_), 3, rfl, t2, ts, rfl, scH3.tupS hS, fun b4 C4 sc4 hb4 => ?_⟩
  rw [e3n, cut_to] at hb4
  have sc4 : Same C3 C4 := sc4
  have scH4 := scH3.trans sc4
  have hq4 := (hq.mv (SameN.of scH4).keepT).take 3
  refine ⟨b4, rfl, ⟨_, hb4⟩, fun D5 nD5 => ?_⟩
  refine lc_tupG (xs := ts.take 3) (OkB K n qs C4 D5) (fun i acc => acc.length ≤ i) (fun G s => Same.tupS s.1 hb4) (OkB.start nD5) (Nat.le_refl _) (fun i v G hi nx hv => ?_) (fun C5 acc2 sc5 eD5 la2 => ?_)
  · obtain ⟨acc, ok, eD, le⟩ := nx
    obtain ⟨q', eq', pq⟩ := hq4.get hv
    have hm : q' ∈ qs := List.take_subset _ _ (List.mem_of_getElem? eq')
    have g' := hp.ok.good q' hm
    obtain ⟨a1, b2, rfl, h1, h2⟩ := pq.mv (SameN.of ok.1).keepT
    refine ⟨rfl, tyes ⟨.ref a1, rfl, a1, _, 0, _, rfl, rfl, h1, rfl, .ref a1, rfl, a1, _, 1, _, rfl, rfl, h1, rfl, by show 3 ≤ sizeLine; decide, fun u nu => ?_⟩⟩
    have su : Same G (upd G u (.tup [.str q'.1, .ref b2, .int 0])) := Same.newG nu
    exact ok.step nD5 eD su le (by omega) (.tup (.inl (.inl upd_same)) (by show 3 ≤ 1000; decide) (.cons (.str q'.1 (by have := g'.nm.2.1; omega)) (.cons (.tup (su.tupS h2) (by rw [List.length_map]; have := g'.few; omega) (js_ints _)) (.cons (.int 0) .nil)))) (in_len (by simp))
  have la2 : acc2.length ≤ (ts.take 3).length := la2
  have sC5 : Same C4 C5 := sc5.1
  have W4 := sc5.2 acc2 eD5
  have scH5 := scH4.trans sC5
  have W3 := (W2.same sc4).same sC5
  have lo1 : (odds ++ acc1).length ≤ 16 := by rw [List.length_append]; omega
  refine ⟨l7, D5, odds ++ acc1, acc2, rfl, rfl, sC5 _ _ (sc4 _ _ e7), eD5, Nat.le_of_lt (small1000 (by omega)), fun l8 nl8 => ?_⟩
  have lo2 : ((odds ++ acc1) ++ acc2).length ≤ 19 := by rw [List.length_append]; omega
  have W5 := (W3.app W4).same (Same.newG (o := .lst ((odds ++ acc1) ++ acc2)) nl8)
  have s8 : Same C5 (upd C5 l8 (.lst ((odds ++ acc1) ++ acc2))) := Same.newG nl8
  have e8 : (upd C5 l8 (.lst ((odds ++ acc1) ++ acc2))) l8 = some (.lst ((odds ++ acc1) ++ acc2)) := upd_same
  generalize upd C5 l8 (.lst ((odds ++ acc1) ++ acc2)) = C6 at W5 s8 e8 ⊢
  generalize (odds ++ acc1) ++ acc2 = all at W5 e8 lo2 ⊢
  have sH6 := scH5.trans s8
  refine ⟨.ref l8, rfl, l8, rfl, ⟨_, SqL.of e8⟩, fun D9 nD9 => ?_⟩
  refine lc_lstG (xs := all) (Same C6) (fun i acc => acc = []) (fun G s => SqL.of (s _ _ e8)) (Same.newG nD9) rfl (fun i v G hi nx hv => ?_) (fun C7 acc sc7 eD9 ea => ?_)
  · obtain ⟨acc, sG, eD, ea⟩ := nx
    obtain ⟨j, hj, cj⟩ := W5 v (List.mem_of_getElem? hv)
    have sG0 := sH6.trans sG
    refine ⟨rfl, v, rfl, .ref a, rfl, a, dx, _, rfl, sG0 _ _ hA, a, t, n, qs, _, _, rfl, ha.sameN (SameN.of sG0), hp.ok, hj.same sG, fun F sF => ⟨_, rfl, ?_⟩⟩
    have sF : Same G F := sF
    rw [cj]
    exact ⟨_, rfl, iteF ⟨acc, sG.trans sF, sF _ _ eD, ea⟩⟩
  have ea : acc = [] := ea
  subst ea
  have sc7 : Same C6 C7 := sc7
  refine ⟨by show 0 ≤ sizeLine; decide, fun l9 nl9 => ⟨D9, l9, [], rfl, rfl, SqL.of ((Same.newG nl9) _ _ eD9), SqL.of upd_same, ?_⟩⟩
  exact q _ ((sH6.trans sc7).trans (Same.newG nl9))
end
end K7

set_option Elab.async false
set_option linter.all false
set_option maxRecDepth 100000
set_option maxHeartbeats 1000000
/-! Yp: putting a tie into a dict of ties; what belongs says, name by name; repr of a Bool. -/
namespace Gd
open PySem PySem.Spec PyProof.Rows L2
def rRb : List V → Hp → VK → Prop := fun vs H Q => ∃ b : Bool, vs = [.bl b] ∧ Q (.str (if b then "True" else "False")) H
theorem call_rb {X : Cx} : CallR X (.builtin "repr") rRb := by
  intro pins s σ H vs us Q I r h
  obtain ⟨b, rfl, q⟩ := h
  obtain ⟨u, rfl, ru⟩ := vals1 r
  cases (show u = Value.bool b from ru)
  exact PySem.P.repr_of_bool ⟨.str _, H, I.tok _, ⟨_, rfl⟩, q⟩
end Gd
namespace K7
open PySem PySem.Spec PyProof.Rows L2 Gd
def putT (ps : List (Str × Tie)) (x : Str) (q : Tie) : List (Str × Tie) :=
  if (ps.any fun p => decide (p.1 = x)) = true then ps.map (fun p => if p.1 = x then (p.1, q) else p) else ps ++ [(x, q)]
theorem any_names {ps : List (Str × Tie)} {x : Str} : (ps.any fun p => decide (p.1 = x)) = decide (x ∈ ps.map Prod.fst) := by
  apply Bool.eq_iff_iff.mpr
  rw [List.any_eq_true, decide_eq_true_eq, List.mem_map]
  constructor
  · rintro ⟨p, h, e⟩
    exact ⟨p, h, of_decide_eq_true e⟩
  · rintro ⟨p, h, e⟩
    exact ⟨p, h, decide_eq_true e⟩
theorem putT_names (ps : List (Str × Tie)) (x : Str) (q : Tie) : (putT ps x q).map Prod.fst = if x ∈ ps.map Prod.fst then ps.map Prod.fst else ps.map Prod.fst ++ [x] := by
  unfold putT
  rw [any_names]
  by_cases h : x ∈ ps.map Prod.fst
  · rw [if_pos (decide_eq_true h), if_pos h, List.map_map]
    refine List.map_congr_left fun p _ => ?_
    show (if p.1 = x then (p.1, q) else p).1 = p.1
    split <;> rfl
  · rw [if_neg (by rw [decide_eq_false h]; exact Bool.false_ne_true), if_neg h, List.map_append]
    rfl
theorem putT_nodup {ps : List (Str × Tie)} (x : Str) (q : Tie) (nd : (ps.map Prod.fst).Nodup) : ((putT ps x q).map Prod.fst).Nodup := by
  rw [putT_names]
  split
  · exact nd
  · rename_i h
    exact List.nodup_append.mpr ⟨nd, List.pairwise_singleton _ _, fun a ha b hb => by
      cases List.mem_singleton.mp hb
      exact fun e => h (by rw [← e]; exact ha)⟩
theorem putT_len (ps : List (Str × Tie)) (x : Str) (q : Tie) : (putT ps x q).length ≤ ps.length + 1 := by
  have z := congrArg List.length (putT_names ps x q)
  rw [List.length_map] at z
  rw [z]
  split
  · rw [List.length_map]; omega
  · rw [List.length_append, List.length_map]
    exact Nat.le_refl _
theorem putT_mem {ps : List (Str × Tie)} {x : Str} {q : Tie} {p : Str × Tie} (h : p ∈ putT ps x q) : p ∈ ps ∨ p = (x, q) := by
  unfold putT at h
  split at h
  · obtain ⟨p', h1, e⟩ := List.mem_map.mp h
    by_cases z : p'.1 = x
    · rw [if_pos z, z] at e
      exact .inr e.symm
    · rw [if_neg z] at e
      rw [← e]
      exact .inl h1
  · rcases List.mem_append.mp h with h | h
    · exact .inl h
    · exact .inr (List.mem_singleton.mp h)
theorem TiesAt.put {K : PySem.W.Frag} {H G : Hp} {d d2 : Addr} {kvs : List (Key × V)} {ps : List (Str × Tie)} {x : Str} {v : V} {q : Tie} (h : TiesAt K H d kvs ps) (k : KeepT H G) (e : G d2 = some (.dK (putK kvs (.inr x) v))) (t : TieAt K G v q) (few : ps.length ≤ 900) (hx : x.length ≤ 1000) (hq : q.2.length ≤ 1000 ∧ ∀ r ∈ q.2, r.length ≤ 1000) :
    TiesAt K G d2 (putK kvs (.inr x) v) (putT ps x q) := by
  have an : (kvs.any fun kv => decide (kv.1 = (.inr x : Key))) = (ps.any fun p => decide (p.1 = x)) := by
    rw [any_names]
    apply Bool.eq_iff_iff.mpr
    rw [List.any_eq_true, decide_eq_true_eq]
    have hk := h.keys
    constructor
    · rintro ⟨kv, h1, e1⟩
      have m : kv.1 ∈ kvs.map (·.1) := List.mem_map_of_mem h1
      rw [hk, of_decide_eq_true e1] at m
      obtain ⟨y, hy, ey⟩ := List.mem_map.mp m
      cases ey
      exact hy
    · intro hm
      have m : (.inr x : Key) ∈ kvs.map (·.1) := by rw [hk]; exact List.mem_map_of_mem hm
      obtain ⟨kv, h1, e1⟩ := List.mem_map.mp m
      exact ⟨kv, h1, decide_eq_true e1⟩
  have mem := fun (p : Str × Tie) (hp : p ∈ putT ps x q) => putT_mem hp
  refine ⟨e, ?_, ?_, fun i kk vv hi => ?_, fun p hp => ?_, fun p hp => ?_⟩
  · unfold putK putT
    rw [an]
    split
    · rw [List.length_map, List.length_map]; exact h.len
    · rw [List.length_append, List.length_append, h.len]; rfl
  · have l : (putK kvs (.inr x) v).length ≤ kvs.length + 1 := by
      unfold putK
      split
      · rw [List.length_map]; omega
      · rw [List.length_append]; exact Nat.le_refl _
    have := h.len
    omega
  · unfold putK at hi
    unfold putT
    rw [an] at hi
    by_cases z : (ps.any fun p => decide (p.1 = x)) = true
    · rw [if_pos z] at hi ⊢
      rw [List.getElem?_map] at hi
      obtain ⟨kv, h1, h2⟩ := Option.map_eq_some_iff.mp hi
      obtain ⟨p, e1, e2, e3⟩ := h.one i kv.1 kv.2 h1
      rw [List.getElem?_map, e1]
      by_cases y : p.1 = x
      · have y2 : kv.1 = (.inr x : Key) := by rw [e2, y]
        rw [if_pos y2] at h2
        cases h2
        refine ⟨(p.1, q), by rw [Option.map_some, if_pos y], by rw [y2, y], t⟩
      · have y2 : ¬ kv.1 = (.inr x : Key) := fun w => y (by rw [e2] at w; exact Sum.inr.inj w)
        rw [if_neg y2] at h2
        subst h2
        exact ⟨p, by rw [Option.map_some, if_neg y], e2, e3.mv k⟩
    · rw [if_neg z] at hi ⊢
      by_cases l : i < kvs.length
      · rw [List.getElem?_append_left l] at hi
        obtain ⟨p, e1, e2, e3⟩ := h.one i kk vv hi
        exact ⟨p, by rw [List.getElem?_append_left (by rw [← h.len]; exact l)]; exact e1, e2, e3.mv k⟩
      · rw [List.getElem?_append_right (by omega)] at hi
        have l0 : i - kvs.length = 0 := by
          have := (List.getElem?_eq_some_iff.mp hi).1
          have e0 : [((.inr x : Key), v)].length = 1 := rfl
          omega
        rw [l0] at hi
        cases hi
        refine ⟨(x, q), ?_, rfl, t⟩
        rw [List.getElem?_append_right (by rw [← h.len]; omega), ← h.len, l0]
        rfl
  · rcases mem p hp with hp | rfl
    · exact h.names p hp
    · exact hx
  · rcases mem p hp with hp | rfl
    · exact h.rows p hp
    · exact hq
/-! ### a plain book -/
theorem Sack.dic {k d : Addr} {H : Hp} {kvs : List (Key × V)} (h : Sack H k) (e : H d = some (.dK kvs)) : d ≠ k := fun z => by
  obtain ⟨_, _, _, w, _⟩ := h
  rw [z, w] at e
  cases e
theorem lookT_put {ps : List (Str × Tie)} {x : Str} {q : Tie} (h : x ∉ ps.map Prod.fst) (y : Str) : lookT (putT ps x q) y = if y = x then some q else lookT ps y := by
  have e : putT ps x q = ps ++ [(x, q)] := by
    unfold putT
    rw [any_names, decide_eq_false h]
    exact if_neg Bool.false_ne_true
  rw [e]
  by_cases z : y = x
  · subst z
    have n := lookT_none.mpr h
    unfold lookT at n ⊢
    rw [Option.map_eq_none_iff] at n
    rw [if_pos rfl, List.find?_append, n]
    simp
  · rw [if_neg z]
    unfold lookT
    rw [List.find?_append]
    have w : ¬ x = y := fun e => z e.symm
    cases List.find? (fun p : Str × Tie => decide (p.1 = y)) ps with
    | none => simp [w]
    | some a => rfl
/-- the book holds x, at the size of every tie of that name -/
def oneB (ps : List (Str × Tie)) (qs : List Pr) (x : Str) : Bool := match lookT ps x with
  | none => false
  | some r => qs.all fun q => !decide (q.1 = x) || decide (q.2.length = r.1)
def sizesOf (qs : List Pr) (x : Str) : List Int := (qs.filter fun q => decide (q.1 = x)).map fun q => (q.2.length : Int)
theorem one_none {ps : List (Str × Tie)} {qs : List Pr} {x : Str} (e : lookT ps x = none) : oneB ps qs x = false := by
  unfold oneB
  rw [e]
theorem bel_due {ps : List (Str × Tie)} {qs : List Pr} {ys : List Str} (m : ∀ x, x ∈ ys ↔ x ∈ qs.map Prod.fst) : ys.all (oneB ps qs) = belB ps qs := by
  apply Bool.eq_iff_iff.mpr
  unfold belB
  rw [List.all_eq_true, List.all_eq_true]
  constructor
  · intro h q hq
    have z := h q.1 ((m _).mpr (List.mem_map.mpr ⟨q, hq, rfl⟩))
    unfold oneB at z
    cases e : lookT ps q.1 with
    | none => rw [e] at z; cases z
    | some r =>
      rw [e] at z
      have w := List.all_eq_true.mp z q hq
      rw [decide_eq_true rfl] at w
      have w : q.2.length = r.1 := of_decide_eq_true w
      rw [w]
      exact decide_eq_true rfl
  · intro h x hx
    obtain ⟨q, hq, rfl⟩ := List.mem_map.mp ((m x).mp hx)
    have z := of_decide_eq_true (h q hq)
    unfold oneB
    cases e : lookT ps q.1 with
    | none => rw [e] at z; cases z
    | some r =>
      refine List.all_eq_true.mpr fun q2 hq2 => ?_
      by_cases c : q2.1 = q.1
      · have z2 := of_decide_eq_true (h q2 hq2)
        rw [c, e] at z2
        have z2 : some r.1 = some q2.2.length := z2
        rw [decide_eq_true c, decide_eq_true (Option.some.inj z2).symm]
        rfl
      · rw [decide_eq_false c]
        rfl
theorem one_sizes {ps : List (Str × Tie)} {qs : List Pr} {x : Str} {r : Tie} {ms : List Int} (e : lookT ps x = some r) (hx : x ∈ qs.map Prod.fst) (asc : ms.Pairwise fun a b => a < b) (mem : ∀ k, k ∈ ms ↔ decide (k ∈ sizesOf qs x) = true) : decide (ms = [(r.1 : Int)]) = oneB ps qs x := by
  have ins : ∀ q ∈ qs, q.1 = x → (q.2.length : Int) ∈ ms := fun q hq c => (mem _).mpr (decide_eq_true (List.mem_map.mpr ⟨q, List.mem_filter.mpr ⟨hq, decide_eq_true c⟩, rfl⟩))
  have outs : ∀ k ∈ ms, ∃ q ∈ qs, q.1 = x ∧ k = (q.2.length : Int) := fun k hk => by
    obtain ⟨q, hq, rfl⟩ := List.mem_map.mp (of_decide_eq_true ((mem k).mp hk))
    have z := List.mem_filter.mp hq
    exact ⟨q, z.1, of_decide_eq_true z.2, rfl⟩
  unfold oneB
  rw [e]
  apply Bool.eq_iff_iff.mpr
  rw [decide_eq_true_eq]
  constructor
  · intro h
    refine List.all_eq_true.mpr fun q hq => ?_
    by_cases c : q.1 = x
    · have z := ins q hq c
      rw [h, List.mem_singleton] at z
      rw [decide_eq_true c, decide_eq_true (show q.2.length = r.1 by omega)]
      rfl
    · rw [decide_eq_false c]
      rfl
  · intro h
    have al : ∀ q ∈ qs, q.1 = x → q.2.length = r.1 := fun q hq c => by
      have z := List.all_eq_true.mp h q hq
      rw [decide_eq_true c] at z
      exact of_decide_eq_true z
    have on : ∀ k ∈ ms, k = (r.1 : Int) := fun k hk => by
      obtain ⟨q, hq, c, rfl⟩ := outs k hk
      rw [al q hq c]
    obtain ⟨q0, h0, c0⟩ := List.mem_map.mp hx
    have i0 := ins q0 h0 c0
    match ms, asc, on, i0 with
    | [], _, _, i => cases i
    | [a], _, on, _ => rw [on a List.mem_cons_self]
    | a :: b :: l, asc, on, _ =>
      have z := (List.pairwise_cons.mp asc).1 b List.mem_cons_self
      rw [on a List.mem_cons_self, on b (List.mem_cons_of_mem _ List.mem_cons_self)] at z
      exact absurd z (Int.lt_irrefl _)
end K7

set_option Elab.async false
set_option linter.all false
set_option maxRecDepth 100000
set_option maxHeartbeats 1000000
/-! Yi: _law_belonging_right. -/
namespace K7
open PySem PySem.Spec PyProof.Rows L2 Gd
theorem dpa_ints {K : PySem.W.Frag} {H : Hp} : ∀ ns : List Int, DpAll K H (ns.map V.int) (ns.map PyData.int)
  | [] => .nil
  | x :: ns => .cons (.int x) (dpa_ints ns)
theorem plain_its : ∀ ns : List Int, PyData.plainAll (ns.map PyData.int) = true
  | [] => rfl
  | x :: ns => by rw [List.map_cons, PyData.plainAll, plain_its ns]; rfl
theorem depth_its : ∀ ns : List Int, PyData.depthAll (ns.map PyData.int) = 0
  | [] => by simp [PyData.depthAll]
  | x :: ns => by simp [PyData.depthAll, PyData.depth, depth_its ns]
theorem eqv_lints (r t : List Int) : PyData.eqv (.list (r.map PyData.int)) (.list (t.map PyData.int)) = decide (r = t) := by
  have e : PyData.eqv (.list (r.map PyData.int)) (.list (t.map PyData.int)) = PyData.eqv (intsD r) (intsD t) := by
    unfold intsD
    simp only [PyData.eqv]
  rw [e, eqv_ints]
theorem sizes_take {qs : List Pr} {i : Nat} {q : Pr} {x : Str} (h : qs[i]? = some q) : sizesOf (qs.take (i + 1)) x = sizesOf (qs.take i) x ++ (if q.1 = x then [(q.2.length : Int)] else []) := by
  unfold sizesOf
  rw [List.take_add_one, h, List.filter_append, List.map_append]
  by_cases c : q.1 = x
  · simp [c]
  · simp [c]
theorem sizes_few {qs : List Pr} {x : Str} : (sizesOf qs x).length ≤ qs.length := by
  unfold sizesOf
  rw [List.length_map]
  exact List.length_filter_le _ _
theorem take_in {ys : List Str} {i : Nat} {x : Str} (nd : ys.Nodup) (h : ys[i]? = some x) : x ∉ ys.take i := fun z => by
  obtain ⟨j, hj⟩ := List.mem_iff_getElem?.mp z
  have hji : j < i := by
    have := (List.getElem?_eq_some_iff.mp hj).1
    rw [List.length_take] at this
    omega
  rw [List.getElem?_take_of_lt hji] at hj
  have hi' := List.getElem?_eq_some_iff.mp h
  have hj' := List.getElem?_eq_some_iff.mp hj
  have := (List.getElem_inj nd).mp (hj'.2.trans hi'.2.symm)
  omega
theorem one_same {ps qs2 : List (Str × Tie)} {qs : List Pr} {x : Str} (e : lookT qs2 x = lookT ps x) : oneB qs2 qs x = oneB ps qs x := by
  unfold oneB
  rw [e]
theorem all_same {f g : Str → Bool} : ∀ {xs : List Str}, (∀ x ∈ xs, f x = g x) → xs.all f = xs.all g
  | [], _ => rfl
  | x :: xs, h => by
    rw [List.all_cons, List.all_cons, h x List.mem_cons_self, all_same fun y hy => h y (List.mem_cons_of_mem _ hy)]
section
variable {P : Program} {w : World} {K : PySem.W.Frag} {mg : Str → Option Value} {base : Heap} {C D : Addr}
def spBelR (K : PySem.W.Frag) (D : Addr) : Sp := fun vs H Q _ => ∃ (k a p t t2 : Addr) (n : Nat) (qs : List Pr), vs = [.ref k, .ref a, .ref p] ∧ Sack H k ∧ NetAt K H D a n t qs ∧ PlnAt K H p t2 n qs ∧ ∀ G, But k H G → Q (.bl true) G
theorem ok_belonging_right {f fI : Addr} {fd fdI : FuncData} (F : Fun K "_law_belonging_right" "_law_belonging_right" s_belonging_right f fd) (B : Blt mg) (T : Bk K mg C) (N : Bn K mg D) (Mk_Book : Mk K C fI) (G_init : FnOk P w K mg base CX0 8 fI fdI ["self", "size", "ties"] (spInit K C)) (b_init : Binds K fdI ["self", "size", "ties"] []) (C1 : Has P w K mg base 1 "_law_grab" ["_law_sack_here", "_law_total"] spGrab) (C2 : Has P w K mg base 2 "_law_one_of" ["_law_sack_here", "_law_items"] spOne) (C3 : Has P w K mg base 5 "belongs" ["book", "net"] (spBel K C D)) : FnOk P w K mg base CX0 10 f fd ["_law_sack_here", "_law_made", "_law_plain"] (spBelR K D) := by
  obtain ⟨f1, fd1, G_grab, g_grab, k_grab, b_grab⟩ := C1.ex
  obtain ⟨f2, fd2, G_one_of, g_one_of, k_one_of, b_one_of⟩ := C2.ex
  obtain ⟨f3, fd3, G_belongs, g_belongs, k_belongs, b_belongs⟩ := C3.ex
  refine F.ok sc_belonging_right (fun vs H Q E h => ?_) (fun cdv A outer s H vs Q E hr h => ?_)
  · obtain ⟨k, a, p, t, t2, n, qs, rfl, _⟩ := h
    rfl
  obtain ⟨k, a, p, t, t2, n, qs, rfl, hk, ha, hp, q⟩ := h
  refine ⟨_, (pss_cons (ps_par (i := 3) (j := 4) (by rfl) sc_belonging_right.nd rfl rfl (by decide) rfl rfl (pa_cons pe_dnewK (pa_cons pe_bl pa_nil)) (by rfl))
  (pss_cons (ps_for PassesOwn.never rfl (pi_list (pe_callB (call_sortS rfl) (by rfl) B.sorted_ (by decide +kernel) (pa_cons (pe_callTy (call_setS rfl) (by rfl) B.set_ (by decide +kernel) (pa_cons (pe_lc (own := [("_law_one", 7)]) (g := gName 7) (tt := tYes) (te := (tOp (rIxT K) (tVar 7) (tC (.int 0)))) rfl sc_belonging_right.nd (pi_tup (pe_dget (hu_of hr) (pv 2) pe_str (fun _ _ => rfl))) (blkOk_by (own := [("_law_one", 7)]) (N := nm_belonging_right) (sc := defScope s_belonging_right) (by decide +kernel)) (fun _ _ _ _ _ => (pg_name (i := 7) sc_belonging_right.nd rfl (.inl rfl))) (fun _ _ _ _ _ => pts_nil) (fun _ _ _ _ _ => (pe_ix ix_tup (pv 7) pe_int (fun _ _ => rfl)))) pa_nil)) pa_nil))) (pg_name (i := 5) sc_belonging_right.nd rfl (.inr rfl)) (pss_cons (ps_set (i := 6) sc_belonging_right.nd rfl (.inl rfl) (pe_callB (cr_sortedSet rfl) (by rfl) B.sorted_ (by decide +kernel) (pa_cons (pe_callTy (call_setI rfl) (by rfl) B.set_ (by decide +kernel) (pa_cons (pe_lc (own := [("_law_one", 7)]) (g := gName 7) (tt := tTest (tOp rEq (tOp (rIxT K) (tVar 7) (tC (.int 0))) (tVar 5))) (te := tCB (rLenS K) (tCons (tOp (rIxT K) (tVar 7) (tC (.int 1))) tNil)) rfl sc_belonging_right.nd (pi_tup (pe_dget (hu_of hr) (pv 2) pe_str (fun _ _ => rfl))) (blkOk_by (own := [("_law_one", 7)]) (N := nm_belonging_right) (sc := defScope s_belonging_right) (by decide +kernel)) (fun _ _ _ _ _ => (pg_name (i := 7) sc_belonging_right.nd rfl (.inl rfl))) (fun _ _ _ _ _ => (pts_one (pt_cmpR op_eq (pe_ix ix_tup (pv 7) pe_int (fun _ _ => rfl)) (pv 5) (nomark _)))) (fun _ _ _ _ _ => (pe_callB call_len_seq (by rfl) B.len_ (by decide +kernel) (pa_cons (pe_ix ix_tup (pv 7) pe_int (fun _ _ => rfl)) pa_nil)))) pa_nil)) pa_nil)))
  (pss_cons (ps_if (pt_cmpR op_gt (pe_call G_grab (hr.mono (by decide)) (by rfl) g_grab k_grab b_grab .nil pass0 (pa_cons (pv 0) (pa_cons pe_int pa_nil))) pe_int (nomark _)) (pss_one (ps_dput (hu_of hr) (pv 3) (pv 5) (pe_tup (pa_cons (pe_call G_one_of (hr.mono (by decide)) (by rfl) g_one_of k_one_of b_one_of .nil pass0 (pa_cons (pv 0) (pa_cons (pe_op op_cat (pe_op op_cat (pv 6) (pv 6)) (pe_lst (pa_cons pe_int pa_nil))) pa_nil))) (pa_cons (pe_tup pa_nil) pa_nil))) rfl)) pss_nil)
  (pss_one (ps_set (i := 4) sc_belonging_right.nd rfl (.inl rfl) (pe_and (pv 4) (pe_and (pe_cmp (pc_din (hu_of hr) (pv 5) (pv 3)) rfl) (pe_one (pe_cmpR (op_eqP hr.units) (pv 6) (pe_lst (pa_cons (pe_ix ix_tup (pe_dget (hu_of hr) (pv 3) (pv 5) (fun _ _ => rfl)) pe_int (fun _ _ => rfl)) pa_nil)) (nomark _))))))))))
  (pss_cons (ps_dput (hu_of hr) (pv 3) pe_str (pe_dget2 (hu_of hr) (pv 3) pe_str (pe_tup (pa_cons pe_int (pa_cons (pe_tup pa_nil) pa_nil))) (⟨by rfl, by rfl, by rfl, by rfl⟩)) rfl)
  (pss_cons (ps_if (pt_cmpR op_in_seq pe_str (pe_lc (own := [("_law_one", 7)]) (g := gName 7) (tt := tYes) (te := (tOp (rIxT K) (tVar 7) (tC (.int 0)))) rfl sc_belonging_right.nd (pi_tup (pe_dget (hu_of hr) (pv 2) pe_str (fun _ _ => rfl))) (blkOk_by (own := [("_law_one", 7)]) (N := nm_belonging_right) (sc := defScope s_belonging_right) (by decide +kernel)) (fun _ _ _ _ _ => (pg_name (i := 7) sc_belonging_right.nd rfl (.inl rfl))) (fun _ _ _ _ _ => pts_nil) (fun _ _ _ _ _ => (pe_ix ix_tup (pv 7) pe_int (fun _ _ => rfl)))) rfl) (pss_one (ps_ret pe_bl)) pss_nil)
  (pss_one (ps_ret (pe_cmpR op_eq (pe_callB call_rb (by rfl) B.repr_ (by decide +kernel) (pa_cons (pe_call G_belongs (hr.mono (by decide)) (by rfl) g_belongs k_belongs b_belongs .nil pass0 (pa_cons (pe_make Mk_Book G_init (hr.mono (by decide)) (by rfl) T.mgC b_init .nil pass0 (pa_cons pe_int (pa_cons (pv 3) pa_nil))) (pa_cons (pv 1) pa_nil))) pa_nil)) (pe_callB call_rb (by rfl) B.repr_ (by decide +kernel) (pa_cons (pv 4) pa_nil)) (nomark _)))))))), ?_⟩
  obtain ⟨ts, hS, hq⟩ := id hp.ts
  have hl := hq.len
  have few := hp.ok.few
  refine fun fd0 nf => ⟨.ref fd0, .bl true, rfl, ?_⟩
  have fk : fd0 ≠ k := hk.ne nf
  have bZ : But k H (upd H fd0 (.dK [])) := (But.same hk (Same.refl H)).up nf
  have sZ : Same H (upd H fd0 (.dK [])) := Same.newG nf
  have eZ : (upd H fd0 (.dK [])) fd0 = some (.dK []) := upd_same
  generalize upd H fd0 (.dK []) = H0 at bZ sZ eZ ⊢
  have hp0 := hp.same (SameN.of sZ)
  refine ⟨.ref p, rfl, p, .ref t2, rfl, dget_ties (.inl hp0.at_), t2, rfl, ⟨ts, sZ.tupS hS⟩, fun D1 nD => ?_⟩
  refine lc_tupG (xs := ts) (Same H0) (fun i acc => acc = ((qs.take i).map Prod.fst).map V.str) (fun G z => z.tupS (sZ.tupS hS)) (Same.newG nD) rfl (fun i v G hi nx hv => ?_) (fun G acc sm eD ea => ?_)
  · obtain ⟨acc, sm, eD, ea⟩ := nx
    obtain ⟨q', eq', pq⟩ := hq.get hv
    obtain ⟨a1, b1, rfl, h1, h2⟩ := pq.mv (SameN.of (sZ.trans sm)).keepT
    refine ⟨rfl, tyes ⟨.ref a1, rfl, a1, _, 0, _, rfl, rfl, h1, rfl, nx_put (fun F o z => z.upG nD) sm eD ?_ ?_⟩⟩
    · rw [ea, List.length_map, List.length_map, List.length_take]
      omega
    · rw [ea]
      exact strs_take qs i q' eq'
  have ea : acc = ((qs.take ts.length).map Prod.fst).map V.str := ea
  rw [hl, List.take_length] at ea
  subst ea
  have sm : Same H0 G := sm
  refine ⟨D1, qs.map Prod.fst, rfl, SqL.of eD, by rw [List.length_map]; omega, fun p0 np => ⟨p0, _, _, rfl, upd_same, by rw [List.length_map]; omega, fun ys l nd srt mem len nl => ?_⟩⟩
  rw [List.length_map] at len
  have lp : l ≠ p0 := fun z => by
    rw [z, upd_same] at nl
    cases nl
  have nl1 : G l = none := by
    rw [upd_ne lp] at nl
    exact nl
  have s1 : ∀ o, Same H0 (upd (upd G p0 o) l (.lst (ys.map V.str))) := fun o => (sm.trans (Same.newG np)).trans (Same.newG (by rw [upd_ne lp]; exact nl1))
  have e1 : ∀ o, (upd (upd G p0 o) l (.lst (ys.map V.str))) l = some (.lst (ys.map V.str)) := fun o => upd_same
  have b1 : ∀ o, But k H (upd (upd G p0 o) l (.lst (ys.map V.str))) := fun o => bZ.trans (But.same bZ.sack (s1 o))
  have d1 : ∀ o, (upd (upd G p0 o) l (.lst (ys.map V.str))) fd0 = some (.dK []) := fun o => s1 o _ _ eZ
  have lk : l ≠ k := fun z => by
    have w := (sm.trans (Same.refl G))
    exact (But.same bZ.sack sm).sack.ne nl1 z
  have fH : H fd0 = none := nf
  obtain ⟨ns4, n4, in4⟩ := hp.four
  have nmy : ∀ x ∈ ys, Nm x := fun x hx => by
    obtain ⟨z, hz, rfl⟩ := List.mem_map.mp ((mem x).mp hx)
    exact (hp.ok.good z hz).nm
  have y4 : ys.length ≤ 4 := Nat.le_trans (nodup_le nd fun x hx => by
    obtain ⟨z, hz, rfl⟩ := List.mem_map.mp ((mem x).mp hx)
    exact in4 z hz) n4
  refine ⟨l, rfl, ⟨_, SqL.of (e1 _)⟩, ?_⟩
  refine for_list (xs := ys.map V.str) (fun i σ F => ∃ (kvs : List (Key × V)) (ps : List (Str × Tie)) (b : Bool) (z5 z6 z7 : Option V), σ = [some (.ref k), some (.ref a), some (.ref p), some (.ref fd0), some (.bl b), z5, z6, z7] ∧ But k H F ∧ F l = some (.lst (ys.map V.str)) ∧ TiesAt K F fd0 kvs ps ∧ ps.length ≤ i ∧ (ps.map Prod.fst).Nodup ∧ (∀ q ∈ ps, Nm q.1 ∧ GoodTie 2 q.2) ∧ (∀ x ∈ ps.map Prod.fst, x ∈ ys.take i) ∧ b = (ys.take i).all (oneB ps qs)) ?_ (fun i σ F hi hW => ?_) (fun i v σ F hv hW => ?_) (fun σ F hW => ?_)
  · exact ⟨[], [], true, _, _, _, rfl, b1 _, e1 _, ⟨d1 _, rfl, by decide, (fun i k v e => by simp at e), (fun q hq => by cases hq), (fun q hq => by cases hq)⟩, Nat.le_refl _, List.nodup_nil, (fun q hq => by cases hq), (fun x hx => by cases hx), rfl⟩
  · obtain ⟨_, _, _, _, _, _, _, _, h7, _⟩ := hW
    exact SqL.of h7
  · obtain ⟨kvs, ps, b, z5, z6, z7, rfl, bF, h7, hT, hlen, hnd, hg, hin, eb⟩ := hW
    rw [List.getElem?_map] at hv
    obtain ⟨x, hx, rfl⟩ := Option.map_eq_some_iff.mp hv
    have hxm : x ∈ ys := List.mem_of_getElem? hx
    have hxq := (mem x).mp hxm
    have nx := nmy x hxm
    have iy : i < ys.length := (List.getElem?_eq_some_iff.mp hx).1
    have hpF := hp.but hk bF
    have kF := bF.keepT hk
    have hqF := hq.mv kF
    have hSF := kF.sqT hS
    refine ⟨.ref p, rfl, p, .ref t2, rfl, dget_ties (.inl hpF.at_), t2, rfl, ⟨ts, hSF⟩, fun D2 nD2 => ?_⟩
    refine lc_tupG (xs := ts) (Same F) (fun i acc => acc = (sizesOf (qs.take i) x).map V.int) (fun G z => z.tupS hSF) (Same.newG nD2) rfl (fun j v G hj nx hv => ?_) (fun G2 acc sm2 eD2 ea => ?_)
    · obtain ⟨acc, sm, eD, ea⟩ := nx
      obtain ⟨q', eq', pq⟩ := hqF.get hv
      obtain ⟨a1, b1, rfl, h1, h2⟩ := pq.mv (SameN.of sm).keepT
      refine ⟨rfl, .ref a1, rfl, a1, _, 0, _, rfl, rfl, h1, rfl, .str x, rfl, rfl, ?_⟩
      by_cases c : q'.1 = x
      · rw [decide_eq_true (show V.str q'.1 = V.str x by rw [c])]
        refine ⟨_, rfl, iteT ⟨.ref a1, rfl, a1, _, 1, _, rfl, rfl, h1, rfl, b1, _, rfl, .inr h2, nx_put (fun F o z => z.upG nD2) sm eD ?_ ?_⟩⟩
        · rw [ea, List.length_map]
          have := sizes_few (qs := qs.take j) (x := x)
          rw [List.length_take] at this
          omega
        · rw [ea, sizes_take eq', if_pos c, List.map_append, List.length_map]
          rfl
      · rw [decide_eq_false (show ¬ V.str q'.1 = V.str x from fun z => c (by cases z; rfl))]
        refine ⟨_, rfl, iteF ⟨acc, sm, eD, ?_⟩⟩
        show acc = (sizesOf (qs.take (j + 1)) x).map V.int
        rw [ea, sizes_take eq', if_neg c, List.append_nil]
    have ea : acc = (sizesOf (qs.take ts.length) x).map V.int := ea
    rw [hl, List.take_length] at ea
    subst ea
    have sm2 : Same F G2 := sm2
    have sf := sizes_few (qs := qs) (x := x)
    refine ⟨D2, sizesOf qs x, rfl, .inl (SqL.of eD2), by omega, fun p1 c hc np1 => ⟨p1, _, c, rfl, upd_same, by omega, fun ms p2 asc mms lenm np2 => ?_⟩⟩
    have np2' : G2 p2 = none ∧ p2 ≠ p1 := by
      have ne : p2 ≠ p1 := fun z => by
        rw [z, upd_same] at np2
        cases np2
      rw [upd_ne ne] at np2
      exact ⟨np2, ne⟩
    have s3 : ∀ o, Same F (upd (upd G2 p1 o) p2 (.lst (ms.map V.int))) := fun o => (sm2.trans (Same.newG np1)).trans (Same.newG (by rw [upd_ne np2'.2]; exact np2'.1))
    have e3 : ∀ o, (upd (upd G2 p1 o) p2 (.lst (ms.map V.int))) p2 = some (.lst (ms.map V.int)) := fun o => upd_same
    have sk : ∀ o, But k F (upd (upd G2 p1 o) p2 (.lst (ms.map V.int))) := fun o => But.same bF.sack (s3 o)
    have p2k : p2 ≠ k := (But.same bF.sack sm2).sack.ne np2'.1
    have lms : ms.length ≤ 20 := by omega
    have m13 : ∀ m ∈ ms, ∃ r : Nat, m = (r : Int) ∧ 1 ≤ r ∧ r ≤ 3 := fun m hm => by
      obtain ⟨q0, h0, rfl⟩ := List.mem_map.mp (of_decide_eq_true ((mms m).mp hm))
      have g0 := hp.ok.good q0 (List.mem_filter.mp h0).1
      exact ⟨_, rfl, g0.one, g0.few⟩
    refine ⟨.ref k, rfl, k, 8, rfl, (sk _).sack, by decide, by decide, fun F3 g b3 g0 g8 => ?_⟩
    have c3 : But k F F3 := (sk _).trans b3
    have e3' : F3 p2 = some (.lst (ms.map V.int)) := b3.stay p2 _ p2k (e3 _)
    clear b3 s3 e3 sk
    have fdk : fd0 ≠ k := fk
    have hT3 : TiesAt K F3 fd0 kvs ps := hT.mv (c3.keepT bF.sack) (c3.stay fd0 _ fk hT.at_)
    have i4 : i < 4 := by omega
    have kv4 : kvs.length ≤ 8 := by have := hT.len; omega
    have xno : x ∉ ps.map Prod.fst := fun z => take_in nd hx (hin x z)
    have sub1 : ∀ y ∈ ys.take i, y ∈ ys.take (i + 1) := fun y hy => by
      rw [List.take_add_one]
      exact List.mem_append.mpr (.inl hy)
    have x1 : x ∈ ys.take (i + 1) := by
      rw [List.take_add_one, hx]
      exact List.mem_append.mpr (.inr List.mem_cons_self)
    refine ⟨g, 0, rfl, rfl, _, rfl, ite2 (fun z => ?c) (fun z => ?d)⟩
    case' c =>
      refine ⟨.ref k, rfl, .ref p2, rfl, .ref p2, rfl, p2, p2, _, _, rfl, rfl, e3', e3', Nat.le_of_lt (small1000 (by rw [List.length_map]; omega)), fun l5 nl5 => ?_⟩
      have s5 : Same F3 (upd F3 l5 (.lst (ms.map V.int ++ ms.map V.int))) := Same.newG nl5
      have e5 : (upd F3 l5 (.lst (ms.map V.int ++ ms.map V.int))) l5 = some (.lst (ms.map V.int ++ ms.map V.int)) := upd_same
      generalize upd F3 l5 (.lst (ms.map V.int ++ ms.map V.int)) = F5 at s5 e5 ⊢
      refine ⟨by show 1 ≤ sizeLine; decide, fun l6 nl6 => ?_⟩
      have s6 : Same F5 (upd F5 l6 (.lst [.int 1])) := Same.newG nl6
      have e6 : (upd F5 l6 (.lst [.int 1])) l6 = some (.lst [.int 1]) := upd_same
      generalize upd F5 l6 (.lst [.int 1]) = F6 at s6 e6 ⊢
      have few40 : (ms.map V.int ++ ms.map V.int).length ≤ 40 := by rw [List.length_append, List.length_map]; omega
      refine ⟨l5, l6, _, _, rfl, rfl, s6 _ _ e5, e6, Nat.le_of_lt (small1000 (by show _ + 1 ≤ 1000; omega)), fun l7 nl7 => ?_⟩
      have s7 : Same F6 (upd F6 l7 (.lst (ms.map V.int ++ ms.map V.int ++ [.int 1]))) := Same.newG nl7
      have e7 : (upd F6 l7 (.lst (ms.map V.int ++ ms.map V.int ++ [.int 1]))) l7 = some (.lst (ms.map V.int ++ ms.map V.int ++ [.int 1])) := upd_same
      have c7 : But k F3 (upd F6 l7 (.lst (ms.map V.int ++ ms.map V.int ++ [.int 1]))) := But.same c3.sack ((s5.trans s6).trans s7)
      have l7k : l7 ≠ k := (But.same c3.sack (s5.trans s6)).sack.ne nl7
      generalize upd F6 l7 (.lst (ms.map V.int ++ ms.map V.int ++ [.int 1])) = F7 at c7 e7 ⊢
      refine ⟨k, l7, _, rfl, c7.sack, l7k, e7, (fun z => by simp at z), (by rw [List.length_append]; show _ + 1 ≤ 1000; omega), fun F8 v b8 hv => ?_⟩
      obtain ⟨r, rfl, r1, r3⟩ : ∃ r : Nat, v = .int r ∧ 1 ≤ r ∧ r ≤ 3 := by
        rcases List.mem_append.mp hv with hv | hv
        · have hv : v ∈ ms.map V.int := (List.mem_append.mp hv).elim id id
          obtain ⟨m, hm, rfl⟩ := List.mem_map.mp hv
          obtain ⟨r, rfl, h1, h3⟩ := m13 m hm
          exact ⟨r, rfl, h1, h3⟩
        · rw [List.mem_singleton.mp hv]
          exact ⟨1, rfl, by decide, by decide⟩
      have c8 : But k F3 F8 := c7.trans b8
      refine ⟨by show 0 ≤ sizeLine; decide, fun t0 nt0 => ?_⟩
      have s9 : Same F8 (upd F8 t0 (.tup [])) := Same.newG nt0
      have e9 : (upd F8 t0 (.tup [])) t0 = some (.tup []) := upd_same
      generalize upd F8 t0 (.tup []) = F9 at s9 e9 ⊢
      refine ⟨by show 2 ≤ sizeLine; decide, fun t1 nt1 => ?_⟩
      have s10 : Same F9 (upd F9 t1 (.tup [.int r, .ref t0])) := Same.newG nt1
      have e10 : (upd F9 t1 (.tup [.int r, .ref t0])) t1 = some (.tup [.int r, .ref t0]) := upd_same
      generalize upd F9 t1 (.tup [.int r, .ref t0]) = F10 at s10 e10 ⊢
      have e9' := s10 _ _ e9
      have c10 : But k F3 F10 := c8.trans (But.same c8.sack (s9.trans s10))
      have hT10 : TiesAt K F10 fd0 kvs ps := hT3.mv (c10.keepT c3.sack) (c10.stay fd0 _ fk hT3.at_)
      refine ⟨.ref fd0, rfl, .str x, rfl, fd0, _, rfl, DPut.k (k := .inr x) hT10.at_ (small1000 (by omega)), ?_⟩
      have kk : KeepT F10 (upd F10 fd0 (.dK (putK kvs (.inr x) (.ref t1)))) := KeepT.dic _ hT10.at_
      have tie : TieAt K (upd F10 fd0 (.dK (putK kvs (.inr x) (.ref t1)))) (.ref t1) (r, []) := ⟨t1, t0, [], rfl, kk.sqT (.inl (.inl e10)), kk.sqT (.inl (.inl e9')), .nil⟩
      have hT11 := hT10.put kk upd_same tie (by omega) (by have := nx.2.1; omega) ⟨Nat.zero_le _, fun r hr => by cases hr⟩
      have lkp := lookT_put (ps := ps) (x := x) (q := (r, [])) xno
      have hX : ∃ kvs' ps', But k H (upd F10 fd0 (.dK (putK kvs (.inr x) (.ref t1)))) ∧ (upd F10 fd0 (.dK (putK kvs (.inr x) (.ref t1)))) l = some (.lst (ys.map V.str)) ∧ (upd F10 fd0 (.dK (putK kvs (.inr x) (.ref t1)))) p2 = some (.lst (ms.map V.int)) ∧ TiesAt K (upd F10 fd0 (.dK (putK kvs (.inr x) (.ref t1)))) fd0 kvs' ps' ∧ ps'.length ≤ i + 1 ∧ (ps'.map Prod.fst).Nodup ∧ (∀ q ∈ ps', Nm q.1 ∧ GoodTie 2 q.2) ∧ (∀ y ∈ ps'.map Prod.fst, y ∈ ys.take (i + 1)) ∧ b = (ys.take i).all (oneB ps' qs) := by
        refine ⟨_, _, But.upD fH fk ((bF.trans c3).trans c10), ?_, ?_, hT11, Nat.le_trans (putT_len _ _ _) (by omega), putT_nodup _ _ hnd, fun q hq => ?_, fun y hy => ?_, ?_⟩
        · rw [upd_ne (ne_of h7 hT.at_ (by intro z; cases z))]
          exact c10.stay l _ lk (c3.stay l _ lk h7)
        · rw [upd_ne (ne_of e3' hT3.at_ (by intro z; cases z))]
          exact c10.stay p2 _ p2k e3'
        · rcases putT_mem hq with hq | rfl
          · exact hg q hq
          · exact ⟨nx, ⟨r1, r3, (fun r hr => by cases hr), (fun r hr => by cases hr), rfl⟩⟩
        · rw [putT_names, if_neg xno] at hy
          rcases List.mem_append.mp hy with hy | hy
          · exact sub1 y (hin y hy)
          · rw [List.mem_singleton.mp hy]
            exact x1
        · rw [eb]
          refine (all_same fun y hy => one_same ?_).symm
          rw [lkp y, if_neg fun z => take_in nd hx (by rw [← z]; exact hy)]
      generalize upd F10 fd0 (.dK (putK kvs (.inr x) (.ref t1))) = FF at hX ⊢
    case' d =>
      have hX : ∃ kvs' ps', But k H F3 ∧ F3 l = some (.lst (ys.map V.str)) ∧ F3 p2 = some (.lst (ms.map V.int)) ∧ TiesAt K F3 fd0 kvs' ps' ∧ ps'.length ≤ i + 1 ∧ (ps'.map Prod.fst).Nodup ∧ (∀ q ∈ ps', Nm q.1 ∧ GoodTie 2 q.2) ∧ (∀ y ∈ ps'.map Prod.fst, y ∈ ys.take (i + 1)) ∧ b = (ys.take i).all (oneB ps' qs) :=
        ⟨kvs, ps, bF.trans c3, c3.stay l _ lk h7, e3', hT3, by omega, hnd, hg, fun y hy => sub1 y (hin y hy), eb⟩
      generalize F3 = FF at hX ⊢
    all_goals
      clear hT hlen hnd hg hin eb hT3 xno
      obtain ⟨kvs', ps', bFF, l7F, p2F, hT', hlen', hnd', hg', hin', eb'⟩ := hX
      have nxt : ∀ (G : Hp) (b' : Bool), Same FF G → b' = (b && oneB ps' qs x) → ∃ (kvs : List (Key × V)) (ps : List (Str × Tie)) (b2 : Bool) (y5 y6 y7 : Option V), [some (V.ref k), some (.ref a), some (.ref p), some (.ref fd0), some (.bl b'), some (.str x), some (.ref p2), z7] = [some (.ref k), some (.ref a), some (.ref p), some (.ref fd0), some (.bl b2), y5, y6, y7] ∧ But k H G ∧ G l = some (.lst (ys.map V.str)) ∧ TiesAt K G fd0 kvs ps ∧ ps.length ≤ i + 1 ∧ (ps.map Prod.fst).Nodup ∧ (∀ q ∈ ps, Nm q.1 ∧ GoodTie 2 q.2) ∧ (∀ x ∈ ps.map Prod.fst, x ∈ ys.take (i + 1)) ∧ b2 = (ys.take (i + 1)).all (oneB ps qs) := fun G b' sG e => by
        refine ⟨kvs', ps', b', _, _, _, rfl, bFF.trans (But.same bFF.sack sG), sG _ _ l7F, hT'.sameN (SameN.of sG), hlen', hnd', hg', hin', ?_⟩
        rw [e, eb', List.take_add_one, hx, List.all_append]
        show _ = (_ && (oneB ps' qs x && true))
        rw [Bool.and_true]
      refine ⟨.bl b, rfl, _, rfl, ?_⟩
      cases b with
      | false => exact iteF (nxt FF false (Same.refl FF) rfl)
      | true =>
        refine iteT ⟨.str x, rfl, .ref fd0, rfl, fd0, _, rfl, DGet.k (k := Sum.inr x) hT'.at_, _, rfl, ?_⟩
        rw [hT'.isS x]
        cases e : lookT ps' x with
        | none => exact iteF (nxt FF false (Same.refl FF) (by rw [one_none e]; rfl))
        | some r =>
          obtain ⟨v, ev, a1, b1, ts', rfl, h1, h2, h3⟩ := hT'.val e
          have dg : DGet FF fd0 (.str x) (some (.ref a1)) := by
            have z := DGet.k (k := (Sum.inr x : Key)) hT'.at_
            rw [ev] at z
            exact z
          refine iteT ⟨.ref p2, rfl, .ref fd0, rfl, .str x, rfl, fd0, .ref a1, rfl, dg, a1, _, 0, _, rfl, rfl, h1, rfl, by show 1 ≤ sizeLine; decide, fun l8 nl8 => ?_⟩
          refine ⟨.list (ms.map PyData.int), .list [.int r.1], .lst (SqL.of ((Same.newG nl8) _ _ p2F)) (dpa_ints _), .lst (SqL.of upd_same) (.cons (.int _) .nil), plain_its _, plain_its [(r.1 : Int)], ?_, ?_⟩
          · show PyData.depthAll (ms.map PyData.int) + 1 ≤ 64
            rw [depth_its]
            decide
          · have ez : PyData.eqv (.list (ms.map PyData.int)) (.list [.int r.1]) = decide (ms = [(r.1 : Int)]) := eqv_lints ms [(r.1 : Int)]
            rw [if_neg (by decide), ez]
            exact nxt _ _ (Same.newG nl8) (by rw [one_sizes e hxq asc mms]; rfl)
  · obtain ⟨kvs, ps, b, z5, z6, z7, rfl, bF, h7, hT, hlen, hnd, hg, hin, eb⟩ := hW
    have lyl : (ys.map V.str).length = ys.length := List.length_map _
    rw [lyl, List.take_length] at eb
    have hin : ∀ x ∈ ps.map Prod.fst, x ∈ ys := fun x hx => List.take_subset _ _ (hin x hx)
    have p4 : ps.length ≤ 4 := by omega
    have kv4 : kvs.length ≤ 4 := by have := hT.len; omega
    refine ⟨.ref fd0, rfl, fd0, rfl, .inl ⟨_, .inl hT.at_⟩, by show 0 ≤ sizeLine; decide, fun t0 nt0 => ?_⟩
    have s2 : Same F (upd F t0 (.tup [])) := Same.newG nt0
    have e2 : (upd F t0 (.tup [])) t0 = some (.tup []) := upd_same
    generalize upd F t0 (.tup []) = F2 at s2 e2 ⊢
    refine ⟨by show 2 ≤ sizeLine; decide, fun t1 nt1 => ?_⟩
    have s3 : Same F2 (upd F2 t1 (.tup [.int 1, .ref t0])) := Same.newG nt1
    have e3 : (upd F2 t1 (.tup [.int 1, .ref t0])) t1 = some (.tup [.int 1, .ref t0]) := upd_same
    generalize upd F2 t1 (.tup [.int 1, .ref t0]) = F3 at s3 e3 ⊢
    have e2' := s3 _ _ e2
    have s03 : Same F F3 := s2.trans s3
    have hT3 := hT.sameN (SameN.of s03)
    refine ⟨_, DGet.k (k := Sum.inr ("zzzz" : Str)) hT3.at_, .ref fd0, rfl, fd0, _, rfl, DPut.k (k := .inr ("zzzz" : Str)) hT3.at_ (small1000 (by omega)), ?_⟩
    have hN : ("zzzz" : Str) ∉ qs.map Prod.fst → TiesAt K (upd F3 fd0 (.dK (putK kvs (.inr ("zzzz" : Str)) ((valV kvs (.inr ("zzzz" : Str))).getD (.ref t1))))) fd0 (putK kvs (.inr ("zzzz" : Str)) ((valV kvs (.inr ("zzzz" : Str))).getD (.ref t1))) (putT ps "zzzz" (1, [])) := fun no => by
      have zno : ("zzzz" : Str) ∉ ps.map Prod.fst := fun z => no ((mem _).mp (hin _ z))
      rw [hT3.no (lookT_none.mpr zno)]
      have kk : KeepT F3 (upd F3 fd0 (.dK (putK kvs (.inr ("zzzz" : Str)) (.ref t1)))) := KeepT.dic _ hT3.at_
      exact hT3.put kk upd_same ⟨t1, t0, [], rfl, kk.sqT (.inl (.inl e3)), kk.sqT (.inl (.inl e2')), .nil⟩ (by omega) (by decide) ⟨Nat.zero_le _, fun r hr => by cases hr⟩
    have bFF : But k H (upd F3 fd0 (.dK (putK kvs (.inr ("zzzz" : Str)) ((valV kvs (.inr ("zzzz" : Str))).getD (.ref t1))))) := But.upD fH fk (bF.trans (But.same bF.sack s03))
    generalize putK kvs (.inr ("zzzz" : Str)) ((valV kvs (.inr ("zzzz" : Str))).getD (.ref t1)) = kvz at hN bFF ⊢
    generalize upd F3 fd0 (.dK kvz) = FF at hN bFF ⊢
    have hpF := hp.but hk bFF
    have kF := bFF.keepT hk
    have hqF := hq.mv kF
    have hSF := kF.sqT hS
    refine ⟨.ref p, rfl, p, .ref t2, rfl, dget_ties (.inl hpF.at_), t2, rfl, ⟨ts, hSF⟩, fun D3 nD3 => ?_⟩
    refine lc_tupG (xs := ts) (Same FF) (fun i acc => acc = ((qs.take i).map Prod.fst).map V.str) (fun G z => z.tupS hSF) (Same.newG nD3) rfl (fun i v G hi nx hv => ?_) (fun G4 acc s4 eD3 ea => ?_)
    · obtain ⟨acc, sm, eD, ea⟩ := nx
      obtain ⟨q', eq', pq⟩ := hqF.get hv
      obtain ⟨a1, b1, rfl, h1, h2⟩ := pq.mv (SameN.of sm).keepT
      refine ⟨rfl, tyes ⟨.ref a1, rfl, a1, _, 0, _, rfl, rfl, h1, rfl, nx_put (fun F o z => z.upG nD3) sm eD ?_ ?_⟩⟩
      · rw [ea, List.length_map, List.length_map, List.length_take]
        omega
      · rw [ea]
        exact strs_take qs i q' eq'
    have ea : acc = ((qs.take ts.length).map Prod.fst).map V.str := ea
    rw [hl, List.take_length] at ea
    subst ea
    have s4 : Same FF G4 := s4
    have b4 : But k H G4 := bFF.trans (But.same bFF.sack s4)
    refine ⟨D3, _, rfl, .inl (SqL.of eD3), rfl, ?_, ?_⟩
    · rw [List.all_map]
      exact List.all_eq_true.mpr fun x hx => rfl
    have ei : inV (V.str "zzzz") ((qs.map Prod.fst).map V.str) = decide (("zzzz" : Str) ∈ qs.map Prod.fst) := in_strs _ _
    rw [if_neg (by decide), ei]
    by_cases hz : ("zzzz" : Str) ∈ qs.map Prod.fst
    · rw [decide_eq_true hz]
      exact ⟨_, rfl, iteT (q _ b4)⟩
    rw [decide_eq_false hz]
    have hT4 := (hN hz).sameN (SameN.of s4)
    have zno : ("zzzz" : Str) ∉ ps.map Prod.fst := fun z => hz ((mem _).mp (hin _ z))
    refine ⟨_, rfl, iteF ⟨.ref fd0, rfl, fun c dx nc ndx ne => ?_⟩⟩
    have s5 : Same G4 (upd (upd G4 dx (.own c)) c (.ins C dx [])) := by
      refine (Same.newG ndx).trans (Same.newG ?_)
      rw [upd_ne ne.symm]
      exact nc
    have ec : (upd (upd G4 dx (.own c)) c (.ins C dx [])) c = some (.ins C dx []) := upd_same
    generalize upd (upd G4 dx (.own c)) c (.ins C dx []) = G5 at s5 ec ⊢
    have gz : ∀ q ∈ putT ps ("zzzz" : Str) ((1, []) : Tie), Nm q.1 ∧ GoodTie 2 q.2 := fun q hq => by
      rcases putT_mem hq with hq | rfl
      · exact hg q hq
      · exact ⟨⟨by decide, by decide, fun c hc => (by decide +kernel : ∀ c ∈ ("zzzz" : Str).cps.toList, c ∈ letters.cps.toList) c hc⟩, ⟨Nat.le_refl _, by decide, (fun r hr => by cases hr), (fun r hr => by cases hr), rfl⟩⟩
    have lz : (putT ps ("zzzz" : Str) ((1, []) : Tie)).length ≤ 8 := Nat.le_trans (putT_len _ _ _) (by omega)
    refine ⟨c, dx, fd0, 2, putT ps "zzzz" (1, []), kvz, rfl, ec, by decide, by decide, hT4.sameN (SameN.of s5), lz, putT_nodup _ _ hnd, gz, fun G6 qs' dT sx hd perm srt' hb => ⟨rfl, ?_⟩⟩
    have s6 : Same G4 G6 := fun b o e => sx b o (fun z => by
      rw [z, nc] at e
      cases e) (s5 b o e)
    have b6 : But k H G6 := b4.trans (But.same b4.sack s6)
    refine ⟨.ref a, rfl, c, dT, 2, qs', a, t, n, qs, rfl, hb, by rw [perm.length_eq]; exact lz, fun q hq => ?_, ha.sameN (b6.sameN hk), few, fun q hq => ?_, fun G7 s7 => ?_⟩
    · have z := (gz q (perm.mem_iff.mp hq)).1.2.1
      omega
    · have z := (hp.ok.good q hq).nm.2.1
      omega
    have s7 : Same G6 G7 := s7
    have ebel : belB qs' qs = b := by
      rw [← bel_due mem, eb]
      refine all_same fun x hx => one_same ?_
      rw [lookT_perm perm hb.nd x, lookT_put zno x, if_neg fun z => hz (by rw [← z]; exact (mem x).mp hx)]
    rw [ebel]
    refine ⟨b, rfl, .bl b, rfl, b, rfl, rfl, ?_⟩
    rw [decide_eq_true rfl]
    exact q _ (b6.trans (But.same b6.sack s7))
end
end K7

set_option Elab.async false
set_option linter.all false
set_option maxRecDepth 100000
set_option maxHeartbeats 1000000
/-! Yj: _law_cell_right. -/
namespace K7
open PySem PySem.Spec PyProof.Rows L2 Gd
theorem eqN_symm {n m : Nat} {qs rs : List Pr} : eqN m n rs qs = eqN n m qs rs := by
  unfold eqN
  congr 1
  · exact decide_eq_decide.mpr ⟨Eq.symm, Eq.symm⟩
  · exact decide_eq_decide.mpr ⟨Eq.symm, Eq.symm⟩
theorem eqN_self {n : Nat} {qs : List Pr} : eqN n n qs qs = true := by
  unfold eqN
  rw [decide_eq_true rfl, decide_eq_true rfl]
  rfl
theorem PrsAt.jsa {K : PySem.W.Frag} {H : Hp} : ∀ {vs : List V} {qs : List Pr}, PrsAt K H vs qs → (∀ q ∈ qs, q.1.length ≤ 1000 ∧ q.2.length ≤ 1000) → JsAll K H vs (qs.map prJ)
  | _, _, .nil, _ => .nil
  | _, _, .cons h t, f => .cons (h.js (f _ List.mem_cons_self).1 (f _ List.mem_cons_self).2) (PrsAt.jsa t fun q hq => f q (List.mem_cons_of_mem _ hq))
def ePl (b1 b2 : Bool) : Key → Bool
  | .inr x => if x = "size" then b1 else b2
  | _ => true
theorem eqDs_pl (n m : Int) (d e : Addr) (f : Key → Bool) : Gd.eqDs (pl n d) (pl m e) f = (f (.inr ("size" : Str)) && (f (.inr ("ties" : Str)) && true)) := by kernel_rfl
section
variable {P : Program} {w : World} {K : PySem.W.Frag} {mg : Str → Option Value} {base : Heap} {C D : Addr} {H : Hp}
theorem nf_self : PySem.W.notFirst K D (.ref D) = true := by
  unfold PySem.W.notFirst
  rw [beq_self_eq_true]
  rfl
theorem req_nets {E : XK} {neg : Bool} {a b t t2 : Addr} {n m : Nat} {qs rs : List Pr} {Q : VK} (N : Bn K mg D) (h1 : NetAt K H D a n t qs) (h2 : NetAt K H D b m t2 rs) (q : Q (.bl (if neg = true then !eqN n m qs rs else eqN n m qs rs)) H) : rEqOwn D (spEqN K D) E neg K (.ref a) (.ref b) H Q := by
  obtain ⟨⟨dx, ha⟩, _⟩ := id h1
  obtain ⟨⟨dx2, hb⟩, _⟩ := id h2
  exact ⟨a, dx, _, .ref D, rfl, ha, N.tyX hb, nf_self, a, t, n, qs, .ref b, rfl, h1, .inr ⟨b, t2, m, rs, rfl, h2, _, rfl, q⟩⟩
theorem req_other {E : XK} {neg : Bool} {a t : Addr} {n : Nat} {qs : List Pr} {v : V} {j : Jv} {Q : VK} (N : Bn K mg D) (h1 : NetAt K H D a n t qs) (hj : Js K H v j) (no : ∀ D, j ≠ .obj D) (q : Q (.bl neg) H) : rEqOwn D (spEqN K D) E neg K (.ref a) v H Q := by
  obtain ⟨⟨dx, ha⟩, _⟩ := id h1
  refine ⟨a, dx, _, j.ty, rfl, ha, hj.tyX, (kit_net (T := N) hj no).2, a, t, n, qs, v, rfl, h1, .inl ⟨j, hj, no, _, rfl, ?_⟩⟩
  cases neg
  · exact q
  · exact q
theorem req_plain {p t p2 t2 : Addr} {n n2 : Nat} {qs qs2 : List Pr} {Q : VK} (h1 : PlnAt K H p t n qs) (h2 : PlnAt K H p2 t2 n2 qs2) (q : Q (.bl (eqN n n2 qs qs2)) H) : rEq3 K (.ref p) (.ref p2) H Q := by
  refine ⟨1, p, p2, pl n t, pl n2 t2, ePl (decide (n = n2)) (decide (qs = qs2)), by decide, rfl, rfl, h1.at_, h2.at_, fun k v y hm hy => ?_, ?_⟩
  · rcases List.mem_cons.mp hm with e | hm
    · cases e
      rw [pl_size] at hy
      cases hy
      have z : ePl (decide (n = n2)) (decide (qs = qs2)) (.inr ("size" : Str)) = PyData.eqv (.int n) (.int n2) := by
        show (if ("size" : Str) = "size" then decide (n = n2) else decide (qs = qs2)) = _
        rw [if_pos rfl]
        show decide (n = n2) = ((n : Int) == (n2 : Int))
        exact (by rw [Bool.eq_iff_iff, decide_eq_true_iff, beq_iff_eq]; omega)
      rw [z]
      exact .data (.int _) (.int _) rfl rfl (by simp [PyData.depth])
    · rcases List.mem_cons.mp hm with e | hm
      · cases e
        rw [pl_ties] at hy
        cases hy
        have z : ePl (decide (n = n2)) (decide (qs = qs2)) (.inr ("ties" : Str)) = PyData.eqv (prsD qs) (prsD qs2) := by
          rw [eqv_prs]
          rfl
        rw [z]
        obtain ⟨ts, hS, hq⟩ := h1.ts
        obtain ⟨ts2, hS2, hq2⟩ := h2.ts
        exact .data (hq.td hS).dp (hq2.td hS2).dp (plain_prs _) (plain_prs _) (Nat.le_trans (depth_prs _) (by decide))
      · cases hm
  · rw [eqDs_pl, Bool.and_true]
    exact q
def spCell (K : PySem.W.Frag) : Sp := fun vs H Q _ => ∃ k : Addr, vs = [.ref k] ∧ Sack H k ∧ ∀ G, But k H G → Q (.bl true) G
theorem sm4 (b : Bool) : Sm 1 100 (.list [.bool b, .bool b, .bool b, .bool b]) := by
  have z := sm_lst (n := 0) (c := 5) (ds := [.bool b, .bool b, .bool b, .bool b]) fun e he => by
    have : e = .bool b := by simpa using he
    rw [this]
    exact sm_bool b
  exact z.mono (Nat.le_refl _) (by show 4 * (5 + 2) + 3 ≤ 100; decide)
theorem ok_cell_right {f : Addr} {fd : FuncData} (F : Fun K "_law_cell_right" "_law_cell_right" s_cell_right f fd) (B : Blt mg) (N : Bn K mg D) (NO : NeObj K D) (M1 : HasM P w K mg base D 1 "__eq__" ["self", "other"] (spEqN K D)) (M2 : HasM P w K mg base D 1 "__str__" ["self"] (spStrN K D)) (C1 : HasG P w K mg base 8 "_law_all_right" ["_law_made", "_law_plain"] (spAllRight K D)) (C2 : Has P w K mg base 4 "_law_wide_net" ["_law_sack_here"] (spWideN K)) (C3 : Has P w K mg base 2 "_law_near" ["_law_sack_here", "_law_plain"] (spNear K)) (C4 : Has P w K mg base 9 "_law_made_net" ["_law_net"] (spMade K D)) (C5 : Has P w K mg base 10 "_law_belonging_right" ["_law_sack_here", "_law_made", "_law_plain"] (spBelR K D)) : FnG P w K mg base CX0 11 f fd ["_law_sack_here"] (spCell K) := by
  obtain ⟨f1, fd1, G_eq, D_eq, _, b_eq⟩ := M1.ex
  obtain ⟨f2, fd2, G_str, D_str, _, b_str⟩ := M2.ex
  obtain ⟨f5, fd5, G_all_right, g_all_right, k_all_right, b_all_right⟩ := C1.ex
  obtain ⟨f6, fd6, G_wide_net, g_wide_net, k_wide_net, b_wide_net⟩ := C2.ex
  obtain ⟨f7, fd7, G_near, g_near, k_near, b_near⟩ := C3.ex
  obtain ⟨f8, fd8, G_made_net, g_made_net, k_made_net, b_made_net⟩ := C4.ex
  obtain ⟨f9, fd9, G_belonging_right, g_belonging_right, k_belonging_right, b_belonging_right⟩ := C5.ex
  refine def_ok F sc_cell_right (fun vs H Q E h => ?_) (fun cdv A outer s H vs Q E hr hgd0 h => ?_)
  · obtain ⟨k, rfl, _⟩ := h
    rfl
  obtain ⟨k, rfl, hk, q⟩ := h
  have hgd : (A.deeper (envOfC "_law_cell_right" (defScope s_cell_right) s.heap.objs.size f cdv)).guards = some [] := hgd0
  refine ⟨_, (pss_cons (ps_set (i := 1) sc_cell_right.nd rfl (.inl rfl) (pe_call G_wide_net (hr.mono (by decide)) (by rfl) g_wide_net k_wide_net b_wide_net .nil pass0 (pa_cons (pv 0) pa_nil)))
  (pss_cons (ps_set (i := 2) sc_cell_right.nd rfl (.inl rfl) (pe_call G_near (hr.mono (by decide)) (by rfl) g_near k_near b_near .nil pass0 (pa_cons (pv 0) (pa_cons (pv 1) pa_nil))))
  (pss_cons (ps_asg (pe_tup (pa_cons (pe_call G_made_net (hr.mono (by decide)) (by rfl) g_made_net k_made_net b_made_net .nil pass0 (pa_cons (pv 1) pa_nil)) (pa_cons (pe_call G_made_net (hr.mono (by decide)) (by rfl) g_made_net k_made_net b_made_net .nil pass0 (pa_cons (pv 2) pa_nil)) (pa_cons (pe_call G_made_net (hr.mono (by decide)) (by rfl) g_made_net k_made_net b_made_net .nil pass0 (pa_cons (pv 1) pa_nil)) pa_nil)))) (pg_tup (by rfl) (pgs_cons (pg_name (i := 3) sc_cell_right.nd rfl (.inr rfl)) (pgs_cons (pg_name (i := 4) sc_cell_right.nd rfl (.inl rfl)) (pgs_cons (pg_name (i := 5) sc_cell_right.nd rfl (.inl rfl)) pgs_nil)))))
  (pss_cons (ps_for PassesOwn.never rfl (pi_range1 (by rfl) B.range_ (pa_cons pe_int pa_nil)) (pg_name (i := 6) sc_cell_right.nd rfl (.inl rfl)) (pss_cons (ps_if (PW.pt (pw_or (pt_not (pt_val (call_ok G_all_right (hr.mono (by decide)) hgd (by rfl) g_all_right k_all_right b_all_right pass0 (pa_cons (pv 3) (pa_cons (pv 1) pa_nil))))) (pw_or (pt_not (pt_val (call_ok G_all_right (hr.mono (by decide)) hgd (by rfl) g_all_right k_all_right b_all_right pass0 (pa_cons (pv 4) (pa_cons (pv 2) pa_nil))))) (pw_or1 (pt_cmpR (op_neOwn G_eq (hr.mono (by decide)) b_eq pass0 D_eq NO) (pv 3) (pv 5) (nomark _)))))) (pss_one (ps_ret pe_bl)) pss_nil)
  (pss_cons (ps_set (i := 7) sc_cell_right.nd rfl (.inl rfl) (pe_lst (pa_cons (pe_cmpR (op_eqOwn G_eq (hr.mono (by decide)) b_eq pass0 D_eq) (pv 3) (pv 4) (nomark _)) (pa_cons (pe_cmpR (op_eqOwn G_eq (hr.mono (by decide)) b_eq pass0 D_eq) (pv 4) (pv 3) (nomark _)) (pa_cons (pe_not (pe_cmpR (op_neOwn G_eq (hr.mono (by decide)) b_eq pass0 D_eq NO) (pv 3) (pv 4) (nomark _))) (pa_cons (pe_not (pe_cmpR (op_neOwn G_eq (hr.mono (by decide)) b_eq pass0 D_eq NO) (pv 4) (pv 3) (nomark _))) pa_nil))))))
  (pss_cons (ps_if (PW.pt (pw_or (pt_cmpR op_ne (pe_callB (call_repr hgd hr.units) (by rfl) B.repr_ (by decide +kernel) (pa_cons (pv 7) pa_nil)) (pe_callB (call_repr hgd hr.units) (by rfl) B.repr_ (by decide +kernel) (pa_cons (pe_op op_rep (pe_lst (pa_cons (pe_cmpR (op_eq3 (Room.u200 hr)) (pv 1) (pv 2) (nomark _)) pa_nil)) pe_int) pa_nil)) (nomark _)) (pw_or1 (pt_not (pt_val (pe_call G_belonging_right (hr.mono (by decide)) (by rfl) g_belonging_right k_belonging_right b_belonging_right .nil pass0 (pa_cons (pv 0) (pa_cons (pv 3) (pa_cons (pv 1) pa_nil))))))))) (pss_one (ps_ret pe_bl)) pss_nil)
  (pss_cons (ps_set (i := 8) sc_cell_right.nd rfl (.inl rfl) (pe_lst (pa_cons pe_non (pa_cons pe_int (pa_cons (pv 1) (pa_cons (pe_dget (hu_of hr) (pv 1) pe_str (fun _ _ => rfl)) (pa_cons (pe_callTy (call_strOwn G_str (hr.mono (by decide)) b_str pass0 D_str) (by rfl) B.str_ (by decide +kernel) (pa_cons (pv 3) pa_nil)) (pa_cons (pe_lst (pa_cons (pv 3) pa_nil)) pa_nil))))))))
  (pss_one (ps_if (pt_cmpR (op_neNil hr.units0) (pe_lc (own := [("_law_value", 9)]) (g := gName 9) (tt := tOr (tTest (tOp (rEqOwn D (spEqN K D) E0 false K) (tVar 3) (tVar 9))) (tNot (tTest (tOp (rEqOwn D (spEqN K D) E0 true K) (tVar 3) (tVar 9))))) (te := tVar 9) rfl sc_cell_right.nd (pi_list (pv 8)) (blkOk_by (own := [("_law_value", 9)]) (N := nm_cell_right) (sc := defScope s_cell_right) (by decide +kernel)) (fun _ _ _ _ _ => (pg_name (i := 9) sc_cell_right.nd rfl (.inl rfl))) (fun _ _ _ _ _ => (pts_one (PW.pt (pw_or (pt_cmpR (op_eqOwn G_eq (hr.mono (by decide)) b_eq pass0 D_eq) (pv 3) (pv 9) (nomark _)) (pw_or1 (pt_not (pt_cmpR (op_neOwn G_eq (hr.mono (by decide)) b_eq pass0 D_eq NO) (pv 3) (pv 9) (nomark _)))))))) (fun _ _ _ _ _ => (pv 9))) (pe_lst pa_nil) (nomark _)) (pss_one (ps_ret pe_bl)) pss_nil)))))))
  (pss_one (ps_ret pe_bl)))))), ?_⟩
  refine ⟨.ref k, rfl, k, rfl, hk, fun G1 p t n qs b1 hp => ?_⟩
  refine ⟨.ref k, rfl, .ref p, rfl, k, p, t, n, qs, rfl, b1.sack, hp, fun G2 p2 t2 n2 qs2 b2 hp2 => ?_⟩
  have hpA := hp.but b1.sack b2
  refine ⟨.ref p, rfl, p, t, n, qs, rfl, hpA, fun G3 a1 s3 hb1 => ?_⟩
  have b3 : But k G2 G3 := But.same b2.sack s3
  have hpB := hpA.but b2.sack b3
  have hp2B := hp2.but b2.sack b3
  refine ⟨.ref p2, rfl, p2, t2, n2, qs2, rfl, hp2B, fun G4 a2 s4 hb2 => ?_⟩
  have b4 : But k G3 G4 := But.same b3.sack s4
  have hpC := hpB.but b3.sack b4
  refine ⟨.ref p, rfl, p, t, n, qs, rfl, hpC, fun G5 a3 s5 hb3 => ?_⟩
  have b5 : But k G4 G5 := But.same b4.sack s5
  refine ⟨by show 3 ≤ sizeLine; decide, fun u nu => ⟨u, _, rfl, .inl (.inl upd_same), rfl, _, _, rfl, _, _, rfl, _, _, rfl, rfl, ?_⟩⟩
  have b6 : But k G5 (upd G5 u (.tup [.ref a1, .ref a2, .ref a3])) := But.same b5.sack (Same.newG nu)
  generalize upd G5 u (.tup [.ref a1, .ref a2, .ref a3]) = G6 at b6 ⊢
  have b35 := b4.trans b5
  have b36 := b35.trans b6
  have b56 := b5.trans b6
  have P1 := hpB.but b3.sack b36
  have P2 := hp2B.but b3.sack b36
  have B1 := hb1.sameN (b36.sameN b3.sack)
  have B2 := hb2.sameN (b56.sameN b4.sack)
  have B3 := hb3.sameN (b6.sameN b5.sack)
  have bH : But k H G6 := (b1.trans (b2.trans b3)).trans b36
  have K6 := b6.sack
  refine ⟨2, rfl, by decide, by decide, for_range (n := 2) (fun i σ F => ∃ z6 z7 z8 z9 : Option V, σ = [some (.ref k), some (.ref p), some (.ref p2), some (.ref a1), some (.ref a2), some (.ref a3), z6, z7, z8, z9] ∧ But k G6 F) ⟨_, _, _, _, rfl, But.same K6 (Same.refl _)⟩ (fun i σ F hi hW => ?_) (fun σ F hW => ?_)⟩
  · obtain ⟨z6, z7, z8, z9, rfl, bF⟩ := hW
    have sN := bF.sameN K6
    have P1F := P1.same sN
    have P2F := P2.same sN
    have B1F := B1.sameN sN
    have B2F := B2.sameN sN
    have B3F := B3.sameN sN
    refine ⟨.ref a1, rfl, .ref p, rfl, a1, p, t, t, n, qs, rfl, B1F, P1F, fun F1 s1 => ⟨true, rfl, iteF ?_⟩⟩
    refine ⟨.ref a2, rfl, .ref p2, rfl, a2, p2, t2, t2, n2, qs2, rfl, B2F.sameN (SameN.of s1), P2F.same (SameN.of s1), fun F2 s2 => ⟨true, rfl, iteF ?_⟩⟩
    have s12 : Same F F2 := Same.trans s1 s2
    have B1G := B1F.sameN (SameN.of s12)
    have B2G := B2F.sameN (SameN.of s12)
    have B3G := B3F.sameN (SameN.of s12)
    have P1G := P1F.same (SameN.of s12)
    have P2G := P2F.same (SameN.of s12)
    refine ⟨.ref a1, rfl, .ref a3, rfl, req_nets N B1G B3G ?_⟩
    rw [if_pos rfl, eqN_self]
    refine ⟨_, rfl, iteF ?_⟩
    refine ⟨.ref a1, rfl, .ref a2, rfl, req_nets N B1G B2G ?_⟩
    rw [if_neg (by decide)]
    refine ⟨.ref a2, rfl, .ref a1, rfl, req_nets N B2G B1G ?_⟩
    rw [if_neg (by decide), eqN_symm]
    refine ⟨.ref a1, rfl, .ref a2, rfl, req_nets N B1G B2G ?_⟩
    rw [if_pos rfl]
    refine ⟨_, rfl, .ref a2, rfl, .ref a1, rfl, req_nets N B2G B1G ?_⟩
    rw [if_pos rfl, eqN_symm]
    refine ⟨_, rfl, by show 4 ≤ sizeLine; decide, fun l1 nl1 => ?_⟩
    rw [Bool.not_not]
    have s3 : Same F2 (upd F2 l1 (.lst [.bl (eqN n n2 qs qs2), .bl (eqN n n2 qs qs2), .bl (eqN n n2 qs qs2), .bl (eqN n n2 qs qs2)])) := Same.newG nl1
    have el1 : (upd F2 l1 (.lst [.bl (eqN n n2 qs qs2), .bl (eqN n n2 qs qs2), .bl (eqN n n2 qs qs2), .bl (eqN n n2 qs qs2)])) l1 = some (.lst [.bl (eqN n n2 qs qs2), .bl (eqN n n2 qs qs2), .bl (eqN n n2 qs qs2), .bl (eqN n n2 qs qs2)]) := upd_same
    generalize upd F2 l1 (.lst [.bl (eqN n n2 qs qs2), .bl (eqN n n2 qs qs2), .bl (eqN n n2 qs qs2), .bl (eqN n n2 qs qs2)]) = F3 at s3 el1 ⊢
    have sm := sm4 (eqN n n2 qs qs2)
    have P1H := P1G.same (SameN.of s3)
    have P2H := P2G.same (SameN.of s3)
    refine ⟨.ref l1, rfl, l1, _, rfl, .lst (SqL.of el1) (.cons (.bl _) (.cons (.bl _) (.cons (.bl _) (.cons (.bl _) .nil)))), sm.sh, sm.nd, sm.r1 (by decide), sm.r2 (by decide), ?_⟩
    refine ⟨.ref p, rfl, .ref p2, rfl, req_plain P1H P2H ?_⟩
    refine ⟨by show 1 ≤ sizeLine; decide, fun l2 nl2 => ⟨l2, 4, _, rfl, rfl, upd_same, by decide, by decide, by show 1 * 4 ≤ sizeLine; decide, fun l3 nl3 => ?_⟩⟩
    refine ⟨l3, _, rfl, .lst (SqL.of upd_same) (.cons (.bl _) (.cons (.bl _) (.cons (.bl _) (.cons (.bl _) .nil)))), sm.sh, sm.nd, sm.r1 (by decide), sm.r2 (by decide), rfl, _, rfl, ?_⟩
    rw [decide_eq_true rfl]
    refine iteF ?_
    have s4 : Same F3 (upd (upd F3 l2 (.lst [.bl (eqN n n2 qs qs2)])) l3 (.lst (List.replicate (4 : Int).toNat [V.bl (eqN n n2 qs qs2)]).flatten)) := (Same.newG nl2).trans (Same.newG nl3)
    generalize upd (upd F3 l2 (.lst [.bl (eqN n n2 qs qs2)])) l3 (.lst (List.replicate (4 : Int).toNat [V.bl (eqN n n2 qs qs2)]).flatten) = F4' at s4 ⊢
    have s14 : Same F F4' := (Same.trans s12 s3).trans s4
    have b14 : But k G6 F4' := bF.trans (But.same bF.sack s14)
    refine ⟨.ref k, rfl, .ref a1, rfl, .ref p, rfl, k, a1, p, t, t, n, qs, rfl, b14.sack, B1.sameN (b14.sameN K6), P1.same (b14.sameN K6), fun F4 b4' => ⟨true, rfl, iteF ?_⟩⟩
    have bI : But k G6 F4 := b14.trans b4'
    have P1I := P1.same (bI.sameN K6)
    have B1I := B1.sameN (bI.sameN K6)
    obtain ⟨⟨dx1, ha1⟩, _⟩ := id B1I
    refine ⟨.ref p, rfl, .ref p, rfl, p, .ref t, rfl, dget_ties (.inl P1I.at_), .ref a1, rfl, a1, dx1, _, rfl, ha1, a1, t, n, qs, rfl, B1I, hp.ok.n60, hp.ok.few, fun z hz => ⟨z, rfl, .ref a1, rfl, by show 1 ≤ sizeLine; decide, fun lo1 nlo1 => ⟨by show 6 ≤ sizeLine; decide, fun lo nlo => ?_⟩⟩⟩
    have s5 : Same F4 (upd (upd F4 lo1 (.lst [.ref a1])) lo (.lst [V.non, .int 0, .ref p, .ref t, .str z, .ref lo1])) := (Same.newG nlo1).trans (Same.newG nlo)
    have el : (upd (upd F4 lo1 (.lst [.ref a1])) lo (.lst [V.non, .int 0, .ref p, .ref t, .str z, .ref lo1])) lo1 = some (.lst [.ref a1]) := (Same.newG nlo) _ _ upd_same
    have elo : (upd (upd F4 lo1 (.lst [.ref a1])) lo (.lst [V.non, .int 0, .ref p, .ref t, .str z, .ref lo1])) lo = some (.lst [V.non, .int 0, .ref p, .ref t, .str z, .ref lo1]) := upd_same
    generalize upd (upd F4 lo1 (.lst [.ref a1])) lo (.lst [V.non, .int 0, .ref p, .ref t, .str z, .ref lo1]) = F5 at s5 el elo ⊢
    have B1J := B1I.sameN (SameN.of s5)
    have P1J := P1I.same (SameN.of s5)
    have odd : ∀ v ∈ [V.non, .int 0, .ref p, .ref t, .str z, .ref lo1], ∃ j, Js K F5 v j ∧ ∀ D, j ≠ .obj D := by
      intro v hv
      rcases List.mem_cons.mp hv with rfl | hv
      · exact ⟨_, .non, fun D e => by cases e⟩
      rcases List.mem_cons.mp hv with rfl | hv
      · exact ⟨_, .int 0, fun D e => by cases e⟩
      rcases List.mem_cons.mp hv with rfl | hv
      · exact ⟨_, .dic P1J.at_, fun D e => by cases e⟩
      rcases List.mem_cons.mp hv with rfl | hv
      · obtain ⟨ts, hS, hq⟩ := P1J.ts
        exact ⟨_, .tup hS (by rw [hq.len]; have := hp.ok.few; omega) (hq.jsa fun q hq => ⟨by have := (hp.ok.good q hq).nm.2.1; omega, by have := (hp.ok.good q hq).few; omega⟩), fun D e => by cases e⟩
      rcases List.mem_cons.mp hv with rfl | hv
      · exact ⟨_, .str z hz, fun D e => by cases e⟩
      rcases List.mem_cons.mp hv with rfl | hv
      · exact ⟨_, .lst el, fun D e => by cases e⟩
      · cases hv
    generalize [V.non, .int 0, .ref p, .ref t, .str z, .ref lo1] = odds at elo odd ⊢
    refine ⟨.ref lo, rfl, lo, rfl, ⟨_, SqL.of elo⟩, fun D9 nD => ?_⟩
    refine lc_lstG (xs := odds) (Same F5) (fun i acc => acc = []) (fun G s => SqL.of (s _ _ elo)) (Same.newG nD) rfl (fun i v G hi nx hv => ?_) (fun F6 acc s6 eD ea => ?_)
    · obtain ⟨acc, sG, eD, ea⟩ := nx
      obtain ⟨j, hj, no⟩ := odd v (List.mem_of_getElem? hv)
      have B1K := B1J.sameN (SameN.of sG)
      refine ⟨rfl, .ref a1, rfl, v, rfl, req_other N B1K (hj.same sG) no ⟨_, rfl, iteF ⟨.ref a1, rfl, v, rfl, req_other N B1K (hj.same sG) no ⟨_, rfl, ?_⟩⟩⟩⟩
      exact iteF ⟨acc, sG, eD, ea⟩
    · have ea : acc = [] := ea
      subst ea
      refine ⟨by show 0 ≤ sizeLine; decide, fun l9 nl9 => ⟨D9, l9, [], rfl, rfl, SqL.of ((Same.newG nl9) _ _ eD), SqL.of upd_same, _, rfl, iteF ?_⟩⟩
      have sAll : Same F4 (upd F6 l9 (.lst [])) := s5.trans (Same.trans s6 (Same.newG nl9))
      exact ⟨_, _, _, _, rfl, bI.trans (But.same bI.sack sAll)⟩
  · obtain ⟨z6, z7, z8, z9, rfl, bF⟩ := hW
    exact q F (bH.trans bF)
end
end K7

set_option Elab.async false
set_option linter.all false
set_option maxRecDepth 100000
set_option maxHeartbeats 1000000
/-! Yk: law. -/
namespace K7
open PySem PySem.Spec PyProof.Rows L2 Gd
theorem same_of_but {H G : Hp} {k : Addr} {o : HO} (n : H k = none) (b : But k (upd H k o) G) : Same H G := fun c x e => by
  have ne : c ≠ k := ne_of_none e n
  exact b.stay c x ne (by rw [upd_ne ne]; exact e)
section
variable {P : Program} {w : World} {K : PySem.W.Frag} {mg : Str → Option Value} {base : Heap} {C D : Addr}
theorem ties_nil {H : Hp} {d : Addr} (e : H d = some (.dK [])) : TiesAt K H d [] [] := ⟨e, rfl, by decide, fun i k v e => (by simp at e), fun q hq => (by cases hq), fun q hq => (by cases hq)⟩
theorem ties_one {H : Hp} {d : Addr} {v : V} {x : Str} {q : Tie} (e : H d = some (.dK [(.inr x, v)])) (t : TieAt K H v q) (hx : x.length ≤ 1000) (hq : q.2.length ≤ 1000 ∧ ∀ r ∈ q.2, r.length ≤ 1000) : TiesAt K H d [(.inr x, v)] [(x, q)] := by
  refine ⟨e, rfl, (by decide : 1 ≤ 1000), fun i k v e => ?_, fun q hq => ?_, fun q hq => ?_⟩
  · match i with
    | 0 => cases e; exact ⟨_, rfl, rfl, t⟩
    | i + 1 => simp at e
  · rw [List.mem_singleton.mp hq]
    exact hx
  · rw [List.mem_singleton.mp hq]
    assumption
theorem made_same {H : Hp} {a dx : Addr} {o p : HO} (na : H a = none) (ndx : H dx = none) (ne : a ≠ dx) : Same H (upd (upd H dx o) a p) := by
  refine (Same.newG ndx).trans (Same.newG ?_)
  rw [upd_ne ne]
  exact na
theorem init_same {H G0 G : Hp} {a : Addr} (na : H a = none) (s : Same H G0) (sx : SameX a G0 G) : Same H G := fun b o e => sx b o (fun z => by
  rw [z, na] at e
  cases e) (s b o e)
def spLaw (K : PySem.W.Frag) : Sp := fun vs H Q _ => ∃ (a : Addr) (ns : List Int), vs = [.ref a] ∧ SqL K H a (ns.map V.int) ∧ ns.length ≤ 63 ∧ ∀ G, Q (.bl true) G
theorem ok_law {f fI fN : Addr} {fd fdI fdN : FuncData} (F : Fun K "law" "law" s_law f fd) (B : Blt mg) (T : Bk K mg C) (N : Bn K mg D) (Mk_Book : Mk K C fI) (G_init : FnOk P w K mg base CX0 8 fI fdI ["self", "size", "ties"] (spInit K C)) (b_init : Binds K fdI ["self", "size", "ties"] []) (Mk_Net : Mk K D fN) (G_ninit : FnOk P w K mg base CX0 7 fN fdN ["self", "size", "ties"] (spNInit K D)) (b_ninit : Binds K fdN ["self", "size", "ties"] [])
    (C1 : HasG P w K mg base 11 "_law_cell_right" ["_law_sack_here"] (spCell K)) (C2 : Has P w K mg base 1 "_law_sack" ["_law_script", "_law_at"] (spSack K)) (C3 : Has P w K mg base 5 "belongs" ["book", "net"] (spBel K C D)) : FnG P w K mg base CX0 12 f fd ["_law_script"] (spLaw K) := by
  obtain ⟨f3, fd3, G_belongs, g_belongs, k_belongs, b_belongs⟩ := C3.ex
  obtain ⟨f5, fd5, G_cell_right, g_cell_right, k_cell_right, b_cell_right⟩ := C1.ex
  obtain ⟨f6, fd6, G_sack, g_sack, k_sack, b_sack⟩ := C2.ex
  refine def_ok F sc_law (fun vs H Q E h => ?_) (fun cdv A outer s H vs Q E hr hgd0 h => ?_)
  · obtain ⟨a, ns, rfl, _⟩ := h
    rfl
  obtain ⟨a, ns, rfl, hS, few, q⟩ := h
  have hgd : (A.deeper (envOfC "law" (defScope s_law) s.heap.objs.size f cdv)).guards = some [] := hgd0
  refine ⟨_, (pss_cons (ps_for PassesOwn.never rfl (pi_range1 (by rfl) B.range_ (pa_cons (pe_callB (call_max2 rfl) (by rfl) B.max_ (by decide +kernel) (pa_cons pe_int (pa_cons (pe_callB (call_min2 rfl) (by rfl) B.min_ (by decide +kernel) (pa_cons pe_int (pa_cons (pe_callB call_len_seq (by rfl) B.len_ (by decide +kernel) (pa_cons (pv 0) pa_nil)) pa_nil))) pa_nil))) pa_nil)) (pg_name (i := 1) sc_law.nd rfl (.inl rfl)) (pss_one (ps_if (pt_not (pt_val (call_ok G_cell_right (hr.mono (by decide)) hgd (by rfl) g_cell_right k_cell_right b_cell_right pass0 (pa_cons (pe_call G_sack (hr.mono (by decide)) (by rfl) g_sack k_sack b_sack .nil pass0 (pa_cons (pv 0) (pa_cons (pv 1) pa_nil))) pa_nil)))) (pss_one (ps_ret pe_bl)) pss_nil)))
  (pss_one (ps_ret (pe_and (pe_call G_belongs (hr.mono (by decide)) (by rfl) g_belongs k_belongs b_belongs .nil pass0 (pa_cons (pe_make Mk_Book G_init (hr.mono (by decide)) (by rfl) T.mgC b_init .nil pass0 (pa_cons pe_int (pa_cons pe_dnewK pa_nil))) (pa_cons (pe_make Mk_Net G_ninit (hr.mono (by decide)) (by rfl) N.mgC b_ninit .nil pass0 (pa_cons pe_int (pa_cons (pe_tup pa_nil) pa_nil))) pa_nil))) (pe_one (pe_not (pe_call G_belongs (hr.mono (by decide)) (by rfl) g_belongs k_belongs b_belongs .nil pass0 (pa_cons (pe_make Mk_Book G_init (hr.mono (by decide)) (by rfl) T.mgC b_init .nil pass0 (pa_cons pe_int (pa_cons (pe_disp (pps_cons pe_str (pe_tup (pa_cons pe_int (pa_cons (pe_tup pa_nil) pa_nil))) pps_nil) (by rfl) (by rfl) (fun z => by cases z) (by decide)) pa_nil))) (pa_cons (pe_make Mk_Net G_ninit (hr.mono (by decide)) (by rfl) N.mgC b_ninit .nil pass0 (pa_cons pe_int (pa_cons (pe_tup (pa_cons (pe_tup (pa_cons pe_str (pa_cons (pe_tup (pa_cons pe_int pa_nil)) pa_nil))) pa_nil)) pa_nil))) pa_nil))))))))), ?_⟩
  refine ⟨.ref a, rfl, a, _, rfl, .inl hS, _, _, rfl, _, _, rfl, _, rfl, ?_, ?_, for_range (fun i σ G => ∃ y, σ = [some (.ref a), y] ∧ Same H G) ⟨_, rfl, Same.refl H⟩ (fun i σ G _ hW => ?_) (fun σ G hW => ?_)⟩
  · rw [List.length_map]
    split <;> split <;> omega
  · rw [List.length_map]
    split <;> split <;> omega
  · obtain ⟨y, rfl, sG⟩ := hW
    refine ⟨.ref a, rfl, .int (0 + (i : Int)), rfl, a, ns, i, by rw [Int.zero_add]; rfl, sG.seq hS, fun k x y z nk h1 h2 => ?_⟩
    refine ⟨k, rfl, ⟨x, y, z, upd_same, h1, h2⟩, fun G2 b2 => ⟨true, rfl, iteF ⟨_, rfl, sG.trans (same_of_but nk b2)⟩⟩⟩
  · obtain ⟨y, rfl, sG⟩ := hW
    refine fun d nd => ?_
    have ed : (upd G d (.dK [])) d = some (.dK []) := upd_same
    generalize upd G d (.dK []) = G3 at ed ⊢
    intro b dx nb ndx ne
    have s3 : Same G3 (upd (upd G3 dx (.own b)) b (.ins C dx [])) := made_same nb ndx ne.symm
    have eb : (upd (upd G3 dx (.own b)) b (.ins C dx [])) b = some (.ins C dx []) := upd_same
    generalize upd (upd G3 dx (.own b)) b (.ins C dx []) = G4 at s3 eb ⊢
    refine ⟨b, dx, d, 1, [], [], rfl, eb, by decide, by decide, ties_nil (s3 _ _ ed), by decide, List.nodup_nil, fun q hq => (by cases hq), fun G5 ps dT sx nT pm sr bk => ⟨rfl, ?_⟩⟩
    have p0 : ps = [] := List.eq_nil_of_length_eq_zero (by rw [pm.length_eq]; rfl)
    subst p0
    refine ⟨by show 0 ≤ sizeLine; decide, fun t nt => ?_⟩
    have s6 : Same G5 (upd G5 t (.tup [])) := Same.newG nt
    have et : (upd G5 t (.tup [])) t = some (.tup []) := upd_same
    generalize upd G5 t (.tup []) = G6 at s6 et ⊢
    intro c dy nc ndy ne2
    have s7 : Same G6 (upd (upd G6 dy (.own c)) c (.ins D dy [])) := made_same nc ndy ne2.symm
    have ec : (upd (upd G6 dy (.own c)) c (.ins D dy [])) c = some (.ins D dy []) := upd_same
    generalize upd (upd G6 dy (.own c)) c (.ins D dy []) = G7 at s7 ec ⊢
    refine ⟨c, dy, t, 60, [], rfl, ec, ⟨[], .inl (.inl (s7 _ _ et)), .nil⟩, ⟨by decide, List.Pairwise.nil, fun q hq => (by cases hq), by decide⟩, fun G8 sy hn => ⟨rfl, ?_⟩⟩
    have s8 : Same G6 G8 := init_same nc s7 sy
    refine ⟨b, dT, 1, [], c, t, 60, [], rfl, bk.sameN (SameN.of (s6.trans s8)), by decide, fun q hq => (by cases hq), hn, by decide, fun q hq => (by cases hq), fun G9 _ => ⟨_, rfl, iteT ?_⟩⟩
    refine fun p np => ⟨by show 0 ≤ sizeLine; decide, fun e ne => ⟨by show 2 ≤ sizeLine; decide, fun t3 nt3 => ?_⟩⟩
    have sA : Same (upd G9 p (.dK [])) (upd (upd (upd G9 p (.dK [])) e (.tup [])) t3 (.tup [.int 2, .ref e])) := (Same.newG ne).trans (Same.newG nt3)
    have ee : (upd (upd (upd G9 p (.dK [])) e (.tup [])) t3 (.tup [.int 2, .ref e])) e = some (.tup []) := (Same.newG nt3) _ _ upd_same
    have et3 : (upd (upd (upd G9 p (.dK [])) e (.tup [])) t3 (.tup [.int 2, .ref e])) t3 = some (.tup [.int 2, .ref e]) := upd_same
    have ep : (upd (upd (upd G9 p (.dK [])) e (.tup [])) t3 (.tup [.int 2, .ref e])) p = some (.dK []) := sA _ _ upd_same
    generalize upd (upd (upd G9 p (.dK [])) e (.tup [])) t3 (.tup [.int 2, .ref e]) = H0 at ee et3 ep ⊢
    refine ⟨ep, [(.inr "a", .ref t3)], rfl, by show 1 ≤ 15; decide, ?_⟩
    have kk : KeepT H0 (upd H0 p (.dK (mergeK [] [((.inr "a" : Key), V.ref t3)]))) := KeepT.dic _ ep
    have e9 : (upd H0 p (.dK (mergeK [] [((.inr "a" : Key), V.ref t3)]))) p = some (.dK [(.inr "a", .ref t3)]) := upd_same
    have ee9 := (kk _ _).1 ee
    have et9 := (kk _ _).1 et3
    generalize upd H0 p (.dK (mergeK [] [((.inr "a" : Key), V.ref t3)])) = H1 at e9 ee9 et9 ⊢
    have tie : TieAt K H1 (.ref t3) (2, []) := ⟨t3, e, [], rfl, .inl (.inl et9), .inl (.inl ee9), .nil⟩
    intro b2 dx2 nb2 ndx2 ne2
    have sB : Same H1 (upd (upd H1 dx2 (.own b2)) b2 (.ins C dx2 [])) := made_same nb2 ndx2 ne2.symm
    have eb2 : (upd (upd H1 dx2 (.own b2)) b2 (.ins C dx2 [])) b2 = some (.ins C dx2 []) := upd_same
    generalize upd (upd H1 dx2 (.own b2)) b2 (.ins C dx2 []) = H2 at sB eb2 ⊢
    have nmA : Nm "a" := ⟨by decide, by decide, (by show ∀ c ∈ ("a" : Str).cps.toList, c ∈ letters.cps.toList; decide +kernel)⟩
    refine ⟨b2, dx2, p, 1, [("a", (2, []))], [(.inr "a", .ref t3)], rfl, eb2, by decide, by decide, ties_one (sB _ _ e9) (tie.same sB) (by decide) ⟨by decide, fun r hr => (by cases hr)⟩, by decide, by decide, fun q hq => ?_, fun H3 qs2 dT2 sx2 nT2 pm2 sr2 bk2 => ⟨rfl, ?_⟩⟩
    · rw [List.mem_singleton.mp hq]
      exact ⟨nmA, ⟨by decide, by decide, fun r hr => (by cases hr), fun r hr => (by cases hr), rfl⟩⟩
    have hl : lookT qs2 "a" = some (2, []) := by
      rw [lookT_perm pm2 bk2.nd]
      exact lookT_mem (p := ("a", (2, []))) (by decide) List.mem_cons_self
    have l2 : qs2.length = 1 := pm2.length_eq
    refine ⟨by show 1 ≤ sizeLine; decide, fun u1 nu1 => ⟨by show 2 ≤ sizeLine; decide, fun u2 nu2 => ⟨by show 1 ≤ sizeLine; decide, fun u3 nu3 => ?_⟩⟩⟩
    have sU : Same H3 (upd (upd (upd H3 u1 (.tup [.int 0])) u2 (.tup [.str "a", .ref u1])) u3 (.tup [.ref u2])) := ((Same.newG nu1).trans (Same.newG nu2)).trans (Same.newG nu3)
    have e1 : (upd (upd (upd H3 u1 (.tup [.int 0])) u2 (.tup [.str "a", .ref u1])) u3 (.tup [.ref u2])) u1 = some (.tup [.int 0]) := ((Same.newG nu2).trans (Same.newG nu3)) _ _ upd_same
    have e2 : (upd (upd (upd H3 u1 (.tup [.int 0])) u2 (.tup [.str "a", .ref u1])) u3 (.tup [.ref u2])) u2 = some (.tup [.str "a", .ref u1]) := (Same.newG nu3) _ _ upd_same
    have e3 : (upd (upd (upd H3 u1 (.tup [.int 0])) u2 (.tup [.str "a", .ref u1])) u3 (.tup [.ref u2])) u3 = some (.tup [.ref u2]) := upd_same
    generalize upd (upd (upd H3 u1 (.tup [.int 0])) u2 (.tup [.str "a", .ref u1])) u3 (.tup [.ref u2]) = H4 at sU e1 e2 e3 ⊢
    intro c2 dy2 nc2 ndy2 ne3
    have s9 : Same H4 (upd (upd H4 dy2 (.own c2)) c2 (.ins D dy2 [])) := made_same nc2 ndy2 ne3.symm
    have ec2 : (upd (upd H4 dy2 (.own c2)) c2 (.ins D dy2 [])) c2 = some (.ins D dy2 []) := upd_same
    generalize upd (upd H4 dy2 (.own c2)) c2 (.ins D dy2 []) = H5 at s9 ec2 ⊢
    refine ⟨c2, dy2, u3, 1, [("a", [0])], rfl, ec2, ⟨[.ref u2], .inl (.inl (s9 _ _ e3)), .cons ⟨u2, u1, rfl, .inl (.inl (s9 _ _ e2)), .inl (.inl (s9 _ _ e1))⟩ .nil⟩, ⟨by decide, List.pairwise_singleton _ _, fun q hq => ?_, (by decide : 1 ≤ 20)⟩, fun H6 sy2 hn2 => ⟨rfl, ?_⟩⟩
    · rw [List.mem_singleton.mp hq]
      exact ⟨nmA, by decide, by decide, fun x hx => by rw [List.mem_singleton.mp hx]; decide⟩
    have sZ : Same H3 H6 := sU.trans (init_same nc2 s9 sy2)
    refine ⟨b2, dT2, 1, qs2, c2, u3, 1, [("a", [0])], rfl, bk2.sameN (SameN.of sZ), by omega, fun q hq => ?_, hn2, (by decide : 1 ≤ 20), fun q hq => ?_, fun H7 _ => ?_⟩
    · rw [List.mem_singleton.mp (pm2.mem_iff.mp hq)]
      decide
    · rw [List.mem_singleton.mp hq]
      decide
    have eB : belB qs2 [("a", [0])] = false := by
      unfold belB
      rw [List.all_cons, hl]
      rfl
    rw [eB]
    exact ⟨_, rfl, q _⟩
end
end K7

set_option Elab.async false
set_option linter.all false
set_option maxRecDepth 100000
set_option maxHeartbeats 8000000
/-! Yl: all defs and the two classes, put together. -/
namespace K7
open PySem PySem.Spec PyProof.Rows L2 Gd
theorem ba {a b : Bool} (h : (a && b) = true) : a = true ∧ b = true := Bool.and_eq_true_iff.mp h
def fnB (K : PySem.W.Frag) (f : Addr) : Bool := PySem.W.isFn K (.ref f) && PySem.W.fnIn K f
def prB (K : PySem.W.Frag) (p : Addr) : Bool := decide (PySem.W.specialIn K (.ref p) "__get__" = some (some (.builtin "property.__get__"))) && decide (PySem.W.takesIn K (.ref p) = some true)
def kinds : List String := ["NoneType", "bool", "int", "str", "list", "dict", "tuple"]
def bookB (K : PySem.W.Frag) (C : Addr) : Bool := PySem.W.plainGet K C Str.empty && (PySem.W.hasDictIn K C && (PySem.W.plainOver K C && (decide (PySem.W.findIn K (.ref C) "__setattr__" = some (some (.builtin "object.__setattr__"))) &&
  (decide (PySem.W.findIn K (.ref C) "_size" = some none) && (decide (PySem.W.findIn K (.ref C) "_names" = some none) && (decide (PySem.W.findIn K (.ref C) "_ties" = some none) && (decide (PySem.W.findIn K (.ref C) "_sets" = some none) &&
  (decide (PySem.W.findIn K (.ref C) "__class__" = some (some (.builtin "object.__class__"))) && (decide (PySem.W.specialIn K (.builtin "object.__class__") "__get__" = some (some (.builtin "getset_descriptor.__get__"))) && (decide (PySem.W.takesIn K (.builtin "object.__class__") = some true) && (decide (PySem.W.mroIn K C (.type "object") = some true) &&
  ((["int", "bool", "str", "tuple", "dict"].all fun T => decide (PySem.W.kitOne K (.ref C) (.type T) = some false)) && ((kinds.all fun T => decide (PySem.W.kitOne K (.type T) (.ref C) = some false) && PySem.W.notFirst K C (.type T)) &&
  (PySem.W.makesIn K C && (PySem.W.keepIn K (.ref C) && decide (PySem.W.findIn K (.ref C) "__ne__" = some (some (.builtin "object.__ne__"))))))))))))))))))
structure BookB (K : PySem.W.Frag) (C : Addr) : Prop where
  cl : Cls K C
  nS : NoAttr K C "_size"
  nN : NoAttr K C "_names"
  nT : NoAttr K C "_ties"
  nE : NoAttr K C "_sets"
  pl : PlainC K C
  kb : ∀ T, (T = "NoneType" ∨ T = "bool" ∨ T = "int" ∨ T = "str" ∨ T = "list" ∨ T = "dict" ∨ T = "tuple") → PySem.W.kitOne K (.type T) (.ref C) = some false ∧ PySem.W.notFirst K C (.type T) = true
  ms : PySem.W.makesIn K C = true
  kp : PySem.W.keepIn K (.ref C) = true
  ne : NeObj K C
theorem book_of {K : PySem.W.Frag} {C : Addr} (h : bookB K C = true) : BookB K C := by
  obtain ⟨h1, h⟩ := ba h
  obtain ⟨h2, h⟩ := ba h
  obtain ⟨h3, h⟩ := ba h
  obtain ⟨h4, h⟩ := ba h
  obtain ⟨h5, h⟩ := ba h
  obtain ⟨h6, h⟩ := ba h
  obtain ⟨h7, h⟩ := ba h
  obtain ⟨h8, h⟩ := ba h
  obtain ⟨h9, h⟩ := ba h
  obtain ⟨h10, h⟩ := ba h
  obtain ⟨h11, h⟩ := ba h
  obtain ⟨h12, h⟩ := ba h
  obtain ⟨h13, h⟩ := ba h
  obtain ⟨h14, h⟩ := ba h
  obtain ⟨h15, h⟩ := ba h
  obtain ⟨h16, h17⟩ := ba h
  have cl : Cls K C := ⟨h1, h2, h3, of_decide_eq_true h4⟩
  have e5 := of_decide_eq_true h5
  have e6 := of_decide_eq_true h6
  have e7 := of_decide_eq_true h7
  have e8 := of_decide_eq_true h8
  refine ⟨cl, e5, e6, e7, e8, ⟨cl, of_decide_eq_true h9, of_decide_eq_true h10, of_decide_eq_true h11, of_decide_eq_true h12, fun T hT => ?_⟩, fun T hT => ?_, h15, h16, ⟨of_decide_eq_true h17, of_decide_eq_true h12⟩⟩
  · refine of_decide_eq_true (List.all_eq_true.mp h13 T ?_)
    rcases hT with rfl | rfl | rfl | rfl | rfl <;> simp
  · have z := List.all_eq_true.mp h14 T (by unfold kinds; rcases hT with rfl | rfl | rfl | rfl | rfl | rfl | rfl <;> simp)
    obtain ⟨z1, z2⟩ := ba z
    exact ⟨of_decide_eq_true z1, z2⟩
def netB (K : PySem.W.Frag) (C : Addr) : Bool := PySem.W.plainGet K C Str.empty && (PySem.W.hasDictIn K C && (PySem.W.plainOver K C && (decide (PySem.W.findIn K (.ref C) "__setattr__" = some (some (.builtin "object.__setattr__"))) &&
  (decide (PySem.W.findIn K (.ref C) "_size" = some none) && ((decide (PySem.W.findIn K (.ref C) "_ties" = some none) && (
  (decide (PySem.W.findIn K (.ref C) "__class__" = some (some (.builtin "object.__class__"))) && (decide (PySem.W.specialIn K (.builtin "object.__class__") "__get__" = some (some (.builtin "getset_descriptor.__get__"))) && (decide (PySem.W.takesIn K (.builtin "object.__class__") = some true) && (decide (PySem.W.mroIn K C (.type "object") = some true) &&
  ((["int", "bool", "str", "tuple", "dict"].all fun T => decide (PySem.W.kitOne K (.ref C) (.type T) = some false)) && ((kinds.all fun T => decide (PySem.W.kitOne K (.type T) (.ref C) = some false) && PySem.W.notFirst K C (.type T)) &&
  (PySem.W.makesIn K C && (PySem.W.keepIn K (.ref C) && decide (PySem.W.findIn K (.ref C) "__ne__" = some (some (.builtin "object.__ne__"))))))))))))))))))
structure NetB (K : PySem.W.Frag) (C : Addr) : Prop where
  cl : Cls K C
  nS : NoAttr K C "_size"
  nT : NoAttr K C "_ties"
  pl : PlainC K C
  kb : ∀ T, (T = "NoneType" ∨ T = "bool" ∨ T = "int" ∨ T = "str" ∨ T = "list" ∨ T = "dict" ∨ T = "tuple") → PySem.W.kitOne K (.type T) (.ref C) = some false ∧ PySem.W.notFirst K C (.type T) = true
  ms : PySem.W.makesIn K C = true
  kp : PySem.W.keepIn K (.ref C) = true
  ne : NeObj K C
theorem net_of {K : PySem.W.Frag} {C : Addr} (h : netB K C = true) : NetB K C := by
  obtain ⟨h1, h⟩ := ba h
  obtain ⟨h2, h⟩ := ba h
  obtain ⟨h3, h⟩ := ba h
  obtain ⟨h4, h⟩ := ba h
  obtain ⟨h5, h⟩ := ba h
  obtain ⟨h7, h⟩ := ba h
  obtain ⟨h9, h⟩ := ba h
  obtain ⟨h10, h⟩ := ba h
  obtain ⟨h11, h⟩ := ba h
  obtain ⟨h12, h⟩ := ba h
  obtain ⟨h13, h⟩ := ba h
  obtain ⟨h14, h⟩ := ba h
  obtain ⟨h15, h⟩ := ba h
  obtain ⟨h16, h17⟩ := ba h
  have cl : Cls K C := ⟨h1, h2, h3, of_decide_eq_true h4⟩
  have e5 := of_decide_eq_true h5
  have e7 := of_decide_eq_true h7
  refine ⟨cl, e5, e7, ⟨cl, of_decide_eq_true h9, of_decide_eq_true h10, of_decide_eq_true h11, of_decide_eq_true h12, fun T hT => ?_⟩, fun T hT => ?_, h15, h16, ⟨of_decide_eq_true h17, of_decide_eq_true h12⟩⟩
  · refine of_decide_eq_true (List.all_eq_true.mp h13 T ?_)
    rcases hT with rfl | rfl | rfl | rfl | rfl <;> simp
  · have z := List.all_eq_true.mp h14 T (by unfold kinds; rcases hT with rfl | rfl | rfl | rfl | rfl | rfl | rfl <;> simp)
    obtain ⟨z1, z2⟩ := ba z
    exact ⟨of_decide_eq_true z1, z2⟩
theorem all_mk {l : PySem.W.OpenLaw} {w : World} {K : PySem.W.Frag} {h : Heap} {mg : Str → Option Value} {fa : Addr} (X : K.In h) (G : h.Ns mainGlobals mg) (hfa : mg "law" = some (.ref fa))
    {C D tv f_is_integer f_is_number f_is_below f_is_name f_is_ascending f_is_row f_is_rows f_is_tie f_is_ties f_is_size f_is_unknowns f_is_applied f_is_applied_set f_first_from f_sack f_grab f_one_of f_shuffled f_letter f_many_names f_spare f_with f_check_book f_check_net f_does_belong f_belongs f_made_net f_wide_net f_is_net f_near f_all_right f_belonging_right f_cell_right f_law g_Bcontains g_Bplaces g_Binit p_Bnames h_Bnames g_Nlen g_Ncontains g_Neq g_Nstr g_Niter g_Ninit p_Nsize h_Nsize p_Nties h_Nties p_Nnames h_Nnames : Addr} {d_is_integer d_is_number d_is_below d_is_name d_is_ascending d_is_row d_is_rows d_is_tie d_is_ties d_is_size d_is_unknowns d_is_applied d_is_applied_set d_first_from d_sack d_grab d_one_of d_shuffled d_letter d_many_names d_spare d_with d_check_book d_check_net d_does_belong d_belongs d_made_net d_wide_net d_is_net d_near d_all_right d_belonging_right d_cell_right d_law gd_Bcontains gd_Bplaces gd_Binit hd_Bnames gd_Nlen gd_Ncontains gd_Neq gd_Nstr gd_Niter gd_Ninit hd_Nsize hd_Nties hd_Nnames : FuncData} {rest_Bnames rest_Nsize rest_Nties rest_Nnames : List Value} {x_letters_ x_long x_values x_ties x_places x_unkn x_appl : Int} {x_alpha : Str} {y_letters_ y_alpha y_long y_values y_ties y_places y_unkn y_appl : Tok}
    (e_is_integer : PySem.W.nsIn K mainGlobals "is_integer" = some (some (.ref f_is_integer)))
    (F_is_integer : Fun K "is_integer" "is_integer" s_is_integer f_is_integer d_is_integer)
    (e_is_number : PySem.W.nsIn K mainGlobals "is_number" = some (some (.ref f_is_number)))
    (F_is_number : Fun K "is_number" "is_number" s_is_number f_is_number d_is_number)
    (e_is_below : PySem.W.nsIn K mainGlobals "is_below" = some (some (.ref f_is_below)))
    (F_is_below : Fun K "is_below" "is_below" s_is_below f_is_below d_is_below)
    (e_is_name : PySem.W.nsIn K mainGlobals "is_name" = some (some (.ref f_is_name)))
    (F_is_name : Fun K "is_name" "is_name" s_is_name f_is_name d_is_name)
    (e_is_ascending : PySem.W.nsIn K mainGlobals "is_ascending" = some (some (.ref f_is_ascending)))
    (F_is_ascending : Fun K "is_ascending" "is_ascending" s_is_ascending f_is_ascending d_is_ascending)
    (e_is_row : PySem.W.nsIn K mainGlobals "is_row" = some (some (.ref f_is_row)))
    (F_is_row : Fun K "is_row" "is_row" s_is_row f_is_row d_is_row)
    (e_is_rows : PySem.W.nsIn K mainGlobals "is_rows" = some (some (.ref f_is_rows)))
    (F_is_rows : Fun K "is_rows" "is_rows" s_is_rows f_is_rows d_is_rows)
    (e_is_tie : PySem.W.nsIn K mainGlobals "is_tie" = some (some (.ref f_is_tie)))
    (F_is_tie : Fun K "is_tie" "is_tie" s_is_tie f_is_tie d_is_tie)
    (e_is_ties : PySem.W.nsIn K mainGlobals "is_ties" = some (some (.ref f_is_ties)))
    (F_is_ties : Fun K "is_ties" "is_ties" s_is_ties f_is_ties d_is_ties)
    (e_is_size : PySem.W.nsIn K mainGlobals "is_size" = some (some (.ref f_is_size)))
    (F_is_size : Fun K "is_size" "is_size" s_is_size f_is_size d_is_size)
    (e_is_unknowns : PySem.W.nsIn K mainGlobals "is_unknowns" = some (some (.ref f_is_unknowns)))
    (F_is_unknowns : Fun K "is_unknowns" "is_unknowns" s_is_unknowns f_is_unknowns d_is_unknowns)
    (e_is_applied : PySem.W.nsIn K mainGlobals "is_applied" = some (some (.ref f_is_applied)))
    (F_is_applied : Fun K "is_applied" "is_applied" s_is_applied f_is_applied d_is_applied)
    (e_is_applied_set : PySem.W.nsIn K mainGlobals "is_applied_set" = some (some (.ref f_is_applied_set)))
    (F_is_applied_set : Fun K "is_applied_set" "is_applied_set" s_is_applied_set f_is_applied_set d_is_applied_set)
    (e_first_from : PySem.W.nsIn K mainGlobals "first_from" = some (some (.ref f_first_from)))
    (F_first_from : Fun K "first_from" "first_from" s_first_from f_first_from d_first_from)
    (e_sack : PySem.W.nsIn K mainGlobals "_law_sack" = some (some (.ref f_sack)))
    (F_sack : Fun K "_law_sack" "_law_sack" s_sack f_sack d_sack)
    (e_grab : PySem.W.nsIn K mainGlobals "_law_grab" = some (some (.ref f_grab)))
    (F_grab : Fun K "_law_grab" "_law_grab" s_grab f_grab d_grab)
    (e_one_of : PySem.W.nsIn K mainGlobals "_law_one_of" = some (some (.ref f_one_of)))
    (F_one_of : Fun K "_law_one_of" "_law_one_of" s_one_of f_one_of d_one_of)
    (e_shuffled : PySem.W.nsIn K mainGlobals "_law_shuffled" = some (some (.ref f_shuffled)))
    (F_shuffled : Fun K "_law_shuffled" "_law_shuffled" s_shuffled f_shuffled d_shuffled)
    (e_letter : PySem.W.nsIn K mainGlobals "_law_letter" = some (some (.ref f_letter)))
    (F_letter : Fun K "_law_letter" "_law_letter" s_letter f_letter d_letter)
    (e_many_names : PySem.W.nsIn K mainGlobals "_law_many_names" = some (some (.ref f_many_names)))
    (F_many_names : Fun K "_law_many_names" "_law_many_names" s_many_names f_many_names d_many_names)
    (e_spare : PySem.W.nsIn K mainGlobals "_law_spare" = some (some (.ref f_spare)))
    (F_spare : Fun K "_law_spare" "_law_spare" s_spare f_spare d_spare)
    (e_with : PySem.W.nsIn K mainGlobals "_law_with" = some (some (.ref f_with)))
    (F_with : Fun K "_law_with" "_law_with" s_with f_with d_with)
    (e_check_book : PySem.W.nsIn K mainGlobals "check_book" = some (some (.ref f_check_book)))
    (F_check_book : Fun K "check_book" "check_book" s_check_book f_check_book d_check_book)
    (e_check_net : PySem.W.nsIn K mainGlobals "check_net" = some (some (.ref f_check_net)))
    (F_check_net : Fun K "check_net" "check_net" s_check_net f_check_net d_check_net)
    (e_does_belong : PySem.W.nsIn K mainGlobals "does_belong" = some (some (.ref f_does_belong)))
    (F_does_belong : Fun K "does_belong" "does_belong" s_does_belong f_does_belong d_does_belong)
    (e_belongs : PySem.W.nsIn K mainGlobals "belongs" = some (some (.ref f_belongs)))
    (F_belongs : Fun K "belongs" "belongs" s_belongs f_belongs d_belongs)
    (e_made_net : PySem.W.nsIn K mainGlobals "_law_made_net" = some (some (.ref f_made_net)))
    (F_made_net : Fun K "_law_made_net" "_law_made_net" s_made_net f_made_net d_made_net)
    (e_wide_net : PySem.W.nsIn K mainGlobals "_law_wide_net" = some (some (.ref f_wide_net)))
    (F_wide_net : Fun K "_law_wide_net" "_law_wide_net" s_wide_net f_wide_net d_wide_net)
    (e_is_net : PySem.W.nsIn K mainGlobals "_law_is_net" = some (some (.ref f_is_net)))
    (F_is_net : Fun K "_law_is_net" "_law_is_net" s_is_net f_is_net d_is_net)
    (e_near : PySem.W.nsIn K mainGlobals "_law_near" = some (some (.ref f_near)))
    (F_near : Fun K "_law_near" "_law_near" s_near f_near d_near)
    (e_all_right : PySem.W.nsIn K mainGlobals "_law_all_right" = some (some (.ref f_all_right)))
    (F_all_right : Fun K "_law_all_right" "_law_all_right" s_all_right f_all_right d_all_right)
    (e_belonging_right : PySem.W.nsIn K mainGlobals "_law_belonging_right" = some (some (.ref f_belonging_right)))
    (F_belonging_right : Fun K "_law_belonging_right" "_law_belonging_right" s_belonging_right f_belonging_right d_belonging_right)
    (e_cell_right : PySem.W.nsIn K mainGlobals "_law_cell_right" = some (some (.ref f_cell_right)))
    (F_cell_right : Fun K "_law_cell_right" "_law_cell_right" s_cell_right f_cell_right d_cell_right)
    (e_law : PySem.W.nsIn K mainGlobals "law" = some (some (.ref f_law)))
    (F_law : Fun K "law" "law" s_law f_law d_law)
    (bl : ∀ (s : Shared) (v : Value), BindsTo s d_law ⟨[v], []⟩ [("_law_script", v)])
    (mB : PySem.W.nsIn K mainGlobals "Book" = some (some (.ref C)))
    (m_Bcontains : PySem.W.findIn K (.ref C) "__contains__" = some (some (.ref g_Bcontains)))
    (F_mBcontains : Fun K "__contains__" "Book.__contains__" s_Book_contains g_Bcontains gd_Bcontains)
    (t_Bcontains : fnB K g_Bcontains = true)
    (m_Bplaces : PySem.W.findIn K (.ref C) "places" = some (some (.ref g_Bplaces)))
    (F_mBplaces : Fun K "places" "Book.places" s_Book_places g_Bplaces gd_Bplaces)
    (t_Bplaces : fnB K g_Bplaces = true)
    (m_Binit : PySem.W.findIn K (.ref C) "__init__" = some (some (.ref g_Binit)))
    (F_mBinit : Fun K "__init__" "Book.__init__" s_Book_init g_Binit gd_Binit)
    (t_Binit : fnB K g_Binit = true)
    (q_Bnames : PySem.W.findIn K (.ref C) "names" = some (some (.ref p_Bnames)))
    (r_Bnames : PySem.W.recIn K p_Bnames "property" = some (.ref h_Bnames :: rest_Bnames))
    (F_pBnames : Fun K "names" "Book.names" s_Book_names h_Bnames hd_Bnames)
    (u_Bnames : prB K p_Bnames = true)
    (mN : PySem.W.nsIn K mainGlobals "Net" = some (some (.ref D)))
    (m_Nlen : PySem.W.findIn K (.ref D) "__len__" = some (some (.ref g_Nlen)))
    (F_mNlen : Fun K "__len__" "Net.__len__" s_Net_len g_Nlen gd_Nlen)
    (t_Nlen : fnB K g_Nlen = true)
    (m_Ncontains : PySem.W.findIn K (.ref D) "__contains__" = some (some (.ref g_Ncontains)))
    (F_mNcontains : Fun K "__contains__" "Net.__contains__" s_Net_contains g_Ncontains gd_Ncontains)
    (t_Ncontains : fnB K g_Ncontains = true)
    (m_Neq : PySem.W.findIn K (.ref D) "__eq__" = some (some (.ref g_Neq)))
    (F_mNeq : Fun K "__eq__" "Net.__eq__" s_Net_eq g_Neq gd_Neq)
    (t_Neq : fnB K g_Neq = true)
    (m_Nstr : PySem.W.findIn K (.ref D) "__str__" = some (some (.ref g_Nstr)))
    (F_mNstr : Fun K "__str__" "Net.__str__" s_Net_str g_Nstr gd_Nstr)
    (t_Nstr : fnB K g_Nstr = true)
    (m_Niter : PySem.W.findIn K (.ref D) "__iter__" = some (some (.ref g_Niter)))
    (F_mNiter : Fun K "__iter__" "Net.__iter__" s_Net_iter g_Niter gd_Niter)
    (t_Niter : fnB K g_Niter = true)
    (m_Ninit : PySem.W.findIn K (.ref D) "__init__" = some (some (.ref g_Ninit)))
    (F_mNinit : Fun K "__init__" "Net.__init__" s_Net_init g_Ninit gd_Ninit)
    (t_Ninit : fnB K g_Ninit = true)
    (q_Nsize : PySem.W.findIn K (.ref D) "size" = some (some (.ref p_Nsize)))
    (r_Nsize : PySem.W.recIn K p_Nsize "property" = some (.ref h_Nsize :: rest_Nsize))
    (F_pNsize : Fun K "size" "Net.size" s_Net_size h_Nsize hd_Nsize)
    (u_Nsize : prB K p_Nsize = true)
    (q_Nties : PySem.W.findIn K (.ref D) "ties" = some (some (.ref p_Nties)))
    (r_Nties : PySem.W.recIn K p_Nties "property" = some (.ref h_Nties :: rest_Nties))
    (F_pNties : Fun K "ties" "Net.ties" s_Net_ties h_Nties hd_Nties)
    (u_Nties : prB K p_Nties = true)
    (q_Nnames : PySem.W.findIn K (.ref D) "names" = some (some (.ref p_Nnames)))
    (r_Nnames : PySem.W.recIn K p_Nnames "property" = some (.ref h_Nnames :: rest_Nnames))
    (F_pNnames : Fun K "names" "Net.names" s_Net_names h_Nnames hd_Nnames)
    (u_Nnames : prB K p_Nnames = true)
    (cB : bookB K C = true)
    (cN : netB K D = true)
    (gV : PySem.W.nsIn K mainGlobals "VALUES_IN" = some (some (.ref tv)))
    (vB : vinB K tv = true)
    (n_letters_ : PySem.W.nsIn K mainGlobals "MAX_LETTERS" = some (some (.int x_letters_ y_letters_)))
    (w_letters_ : x_letters_ = 8)
    (n_alpha : PySem.W.nsIn K mainGlobals "LETTERS" = some (some (.str x_alpha y_alpha)))
    (w_alpha : x_alpha = letters)
    (n_long : PySem.W.nsIn K mainGlobals "TOO_LONG" = some (some (.int x_long y_long)))
    (w_long : x_long = TL)
    (n_values : PySem.W.nsIn K mainGlobals "MAX_VALUES" = some (some (.int x_values y_values)))
    (w_values : x_values = 4)
    (n_ties : PySem.W.nsIn K mainGlobals "MAX_TIES" = some (some (.int x_ties y_ties)))
    (w_ties : x_ties = 8)
    (n_places : PySem.W.nsIn K mainGlobals "MAX_PLACES" = some (some (.int x_places y_places)))
    (w_places : x_places = 3)
    (n_unkn : PySem.W.nsIn K mainGlobals "MAX_UNKNOWNS" = some (some (.int x_unkn y_unkn)))
    (w_unkn : x_unkn = 60)
    (n_appl : PySem.W.nsIn K mainGlobals "MAX_APPLIED" = some (some (.int x_appl y_appl)))
    (w_appl : x_appl = 30000)
    (z_isinstance : PySem.W.nsIn K mainGlobals "isinstance" = some none)
    (z_int : PySem.W.nsIn K mainGlobals "int" = some none)
    (z_bool : PySem.W.nsIn K mainGlobals "bool" = some none)
    (z_str : PySem.W.nsIn K mainGlobals "str" = some none)
    (z_all : PySem.W.nsIn K mainGlobals "all" = some none)
    (z_len : PySem.W.nsIn K mainGlobals "len" = some none)
    (z_zip : PySem.W.nsIn K mainGlobals "zip" = some none)
    (z_repr : PySem.W.nsIn K mainGlobals "repr" = some none)
    (z_tuple : PySem.W.nsIn K mainGlobals "tuple" = some none)
    (z_dict : PySem.W.nsIn K mainGlobals "dict" = some none)
    (z_sorted : PySem.W.nsIn K mainGlobals "sorted" = some none)
    (z_property : PySem.W.nsIn K mainGlobals "property" = some none)
    (z_iter : PySem.W.nsIn K mainGlobals "iter" = some none)
    (z_set : PySem.W.nsIn K mainGlobals "set" = some none)
    (z_list : PySem.W.nsIn K mainGlobals "list" = some none)
    (z_range : PySem.W.nsIn K mainGlobals "range" = some none)
    (z_max : PySem.W.nsIn K mainGlobals "max" = some none)
    (z_abs : PySem.W.nsIn K mainGlobals "abs" = some none)
    (z_min : PySem.W.nsIn K mainGlobals "min" = some none)
    : ∃ fd : FuncData, (∀ (s : Shared) (v : Value), BindsTo s fd ⟨[v], []⟩ [("_law_script", v)]) ∧ ∀ base : Heap, K.In base → base.Ns mainGlobals mg → FnG l.prog w K mg base CX0 12 fa fd ["_law_script"] (spLaw K) := by
  have e := hfa.symm.trans (PySem.W.mg_of X G e_law)
  cases e
  subst w_letters_ w_alpha w_long w_values w_ties w_places w_unkn w_appl
  have B : Blt mg := ⟨PySem.W.mg_none_of X G z_isinstance, PySem.W.mg_none_of X G z_int, PySem.W.mg_none_of X G z_bool, PySem.W.mg_none_of X G z_str, PySem.W.mg_none_of X G z_all, PySem.W.mg_none_of X G z_len, PySem.W.mg_none_of X G z_zip, PySem.W.mg_none_of X G z_repr, PySem.W.mg_none_of X G z_tuple, PySem.W.mg_none_of X G z_dict, PySem.W.mg_none_of X G z_sorted, PySem.W.mg_none_of X G z_property, PySem.W.mg_none_of X G z_iter, PySem.W.mg_none_of X G z_set, PySem.W.mg_none_of X G z_list, PySem.W.mg_none_of X G z_range, PySem.W.mg_none_of X G z_max, PySem.W.mg_none_of X G z_abs, PySem.W.mg_none_of X G z_min⟩
  have Cc : Cst mg := ⟨⟨_, PySem.W.mg_of X G n_letters_⟩, ⟨_, PySem.W.mg_of X G n_alpha⟩, ⟨_, PySem.W.mg_of X G n_long⟩, ⟨_, PySem.W.mg_of X G n_values⟩, ⟨_, PySem.W.mg_of X G n_ties⟩, ⟨_, PySem.W.mg_of X G n_places⟩⟩
  have gU := PySem.W.mg_of X G n_unkn
  have gA := PySem.W.mg_of X G n_appl
  have Z := book_of cB
  have Y := net_of cN
  have T : Bk K mg C := ⟨Z.cl, Z.nS, Z.nN, Z.nT, Z.nE, Z.pl, Z.kb, PySem.W.mg_of X G mB⟩
  have N : Bn K mg D := ⟨Y.cl, Y.nS, Y.nT, Y.pl, Y.kb, PySem.W.mg_of X G mN⟩
  have NO := Y.ne
  refine ⟨d_law, bl, fun base _ _ => ?_⟩
  have H_is_integer : Has l.prog w K mg base 1 "is_integer" ["value"] (spInt K) := ⟨f_is_integer, d_is_integer, ok_is_integer F_is_integer B Cc, PySem.W.mg_of X G e_is_integer, F_is_integer.kp, F_is_integer.binds fun _ _ _ _ _ _ us hl => match us, hl with | [_], _ => rfl⟩
  have H_is_number : Has l.prog w K mg base 2 "is_number" ["value"] (spNum K) := ⟨f_is_number, d_is_number, ok_is_number F_is_number H_is_integer, PySem.W.mg_of X G e_is_number, F_is_number.kp, F_is_number.binds fun _ _ _ _ _ _ us hl => match us, hl with | [_], _ => rfl⟩
  have H_is_below : Has l.prog w K mg base 3 "is_below" ["value", "limit"] (spBelow K) := ⟨f_is_below, d_is_below, ok_is_below F_is_below H_is_number, PySem.W.mg_of X G e_is_below, F_is_below.kp, F_is_below.binds fun _ _ _ _ _ _ us hl => match us, hl with | [_, _], _ => rfl⟩
  have H_is_name : Has l.prog w K mg base 1 "is_name" ["value"] (spName K) := ⟨f_is_name, d_is_name, ok_is_name F_is_name B Cc, PySem.W.mg_of X G e_is_name, F_is_name.kp, F_is_name.binds fun _ _ _ _ _ _ us hl => match us, hl with | [_], _ => rfl⟩
  have H_is_ascending : Has l.prog w K mg base 1 "is_ascending" ["values"] (spAsc K) := ⟨f_is_ascending, d_is_ascending, ok_is_ascending F_is_ascending B, PySem.W.mg_of X G e_is_ascending, F_is_ascending.kp, F_is_ascending.binds fun _ _ _ _ _ _ us hl => match us, hl with | [_], _ => rfl⟩
  have H_asc_p : Has l.prog w K mg base 1 "is_ascending" ["values"] (spAscP K) := ⟨f_is_ascending, d_is_ascending, ok_asc_pairs F_is_ascending B, PySem.W.mg_of X G e_is_ascending, F_is_ascending.kp, F_is_ascending.binds fun _ _ _ _ _ _ us hl => match us, hl with | [_], _ => rfl⟩
  have H_is_row : Has l.prog w K mg base 4 "is_row" ["size", "places", "value"] (spRow K) := ⟨f_is_row, d_is_row, ok_is_row F_is_row B H_is_below, PySem.W.mg_of X G e_is_row, F_is_row.kp, F_is_row.binds fun _ _ _ _ _ _ us hl => match us, hl with | [_, _, _], _ => rfl⟩
  have H_is_rows : Has l.prog w K mg base 5 "is_rows" ["size", "places", "value"] (spRows K) := ⟨f_is_rows, d_is_rows, ok_is_rows F_is_rows B H_is_row H_is_ascending, PySem.W.mg_of X G e_is_rows, F_is_rows.kp, F_is_rows.binds fun _ _ _ _ _ _ us hl => match us, hl with | [_, _, _], _ => rfl⟩
  have H_is_tie : Has l.prog w K mg base 6 "is_tie" ["size", "value"] (spTie K) := ⟨f_is_tie, d_is_tie, ok_is_tie F_is_tie B Cc H_is_integer H_is_rows, PySem.W.mg_of X G e_is_tie, F_is_tie.kp, F_is_tie.binds fun _ _ _ _ _ _ us hl => match us, hl with | [_, _], _ => rfl⟩
  have H_is_ties : Has l.prog w K mg base 7 "is_ties" ["size", "value"] (spTies K) := ⟨f_is_ties, d_is_ties, ok_is_ties F_is_ties B Cc H_is_name H_is_tie, PySem.W.mg_of X G e_is_ties, F_is_ties.kp, F_is_ties.binds fun _ _ _ _ _ _ us hl => match us, hl with | [_, _], _ => rfl⟩
  have H_is_size : Has l.prog w K mg base 2 "is_size" ["value"] (spSize K) := ⟨f_is_size, d_is_size, ok_is_size F_is_size gU H_is_integer, PySem.W.mg_of X G e_is_size, F_is_size.kp, F_is_size.binds fun _ _ _ _ _ _ us hl => match us, hl with | [_], _ => rfl⟩
  have H_is_unknowns : Has l.prog w K mg base 4 "is_unknowns" ["size", "value"] (spUnk K) := ⟨f_is_unknowns, d_is_unknowns, ok_is_unknowns F_is_unknowns B Cc H_is_below, PySem.W.mg_of X G e_is_unknowns, F_is_unknowns.kp, F_is_unknowns.binds fun _ _ _ _ _ _ us hl => match us, hl with | [_, _], _ => rfl⟩
  have H_is_applied : Has l.prog w K mg base 5 "is_applied" ["size", "value"] (spApp K) := ⟨f_is_applied, d_is_applied, ok_is_applied F_is_applied B H_is_name H_is_unknowns, PySem.W.mg_of X G e_is_applied, F_is_applied.kp, F_is_applied.binds fun _ _ _ _ _ _ us hl => match us, hl with | [_, _], _ => rfl⟩
  have H_is_applied_set : Has l.prog w K mg base 6 "is_applied_set" ["size", "value"] (spAppSet K) := ⟨f_is_applied_set, d_is_applied_set, ok_is_applied_set F_is_applied_set B gA H_is_applied H_asc_p, PySem.W.mg_of X G e_is_applied_set, F_is_applied_set.kp, F_is_applied_set.binds fun _ _ _ _ _ _ us hl => match us, hl with | [_, _], _ => rfl⟩
  have H_first_from : Has l.prog w K mg base 1 "first_from" ["ties", "tie"] (spFirst K) := ⟨f_first_from, d_first_from, ok_first_from F_first_from B, PySem.W.mg_of X G e_first_from, F_first_from.kp, F_first_from.binds fun _ _ _ _ _ _ us hl => match us, hl with | [_, _], _ => rfl⟩
  have BM_contains : HasM l.prog w K mg base C 1 "__contains__" ["self", "value"] (spCont K C) := ⟨g_Bcontains, gd_Bcontains, ok_contains F_mBcontains B T, ⟨m_Bcontains, (ba t_Bcontains).1, (ba t_Bcontains).2⟩, ⟨m_Bcontains, (ba t_Bcontains).1, F_mBcontains.kp⟩, F_mBcontains.binds fun _ _ _ _ _ _ us hl => match us, hl with | [_, _], _ => rfl⟩
  have BM_places : HasM l.prog w K mg base C 2 "places" ["self", "name"] (spPlaces K C) := ⟨g_Bplaces, gd_Bplaces, ok_places F_mBplaces B T BM_contains, ⟨m_Bplaces, (ba t_Bplaces).1, (ba t_Bplaces).2⟩, ⟨m_Bplaces, (ba t_Bplaces).1, F_mBplaces.kp⟩, F_mBplaces.binds fun _ _ _ _ _ _ us hl => match us, hl with | [_, _], _ => rfl⟩
  have G_init : FnOk l.prog w K mg base CX0 8 g_Binit gd_Binit ["self", "size", "ties"] (spInit K C) := ok_init F_mBinit B Cc T (PySem.W.mg_of X G gV) (vin_of vB) H_is_integer H_is_ties
  have b_init : Binds K gd_Binit ["self", "size", "ties"] [] := F_mBinit.binds fun _ _ _ _ _ _ us hl => match us, hl with | [_, _, _], _ => rfl
  have KM : Mk K C g_Binit := ⟨Z.ms, m_Binit, (ba t_Binit).1, Z.kp⟩
  have BP_names : HasP l.prog w K mg base C 1 "names" (getSp C "_names") := ⟨p_Bnames, h_Bnames, hd_Bnames, ⟨q_Bnames, of_decide_eq_true (ba u_Bnames).1, of_decide_eq_true (ba u_Bnames).2, ⟨_, r_Bnames⟩⟩, ok_names F_pBnames T, F_pBnames.binds fun _ _ _ _ _ _ us hl => match us, hl with | [_], _ => rfl⟩
  have NM_len : HasM l.prog w K mg base D 1 "__len__" ["self"] (spLenN K D) := ⟨g_Nlen, gd_Nlen, ok_nlen F_mNlen B N, ⟨m_Nlen, (ba t_Nlen).1, (ba t_Nlen).2⟩, ⟨m_Nlen, (ba t_Nlen).1, F_mNlen.kp⟩, F_mNlen.binds fun _ _ _ _ _ _ us hl => match us, hl with | [_], _ => rfl⟩
  have NM_contains : HasM l.prog w K mg base D 6 "__contains__" ["self", "value"] (spInN K D) := ⟨g_Ncontains, gd_Ncontains, ok_ncontains F_mNcontains B N H_is_applied H_first_from, ⟨m_Ncontains, (ba t_Ncontains).1, (ba t_Ncontains).2⟩, ⟨m_Ncontains, (ba t_Ncontains).1, F_mNcontains.kp⟩, F_mNcontains.binds fun _ _ _ _ _ _ us hl => match us, hl with | [_, _], _ => rfl⟩
  have NM_eq : HasM l.prog w K mg base D 1 "__eq__" ["self", "other"] (spEqN K D) := ⟨g_Neq, gd_Neq, ok_neq F_mNeq B N, ⟨m_Neq, (ba t_Neq).1, (ba t_Neq).2⟩, ⟨m_Neq, (ba t_Neq).1, F_mNeq.kp⟩, F_mNeq.binds fun _ _ _ _ _ _ us hl => match us, hl with | [_, _], _ => rfl⟩
  have NM_str : HasM l.prog w K mg base D 1 "__str__" ["self"] (spStrN K D) := ⟨g_Nstr, gd_Nstr, ok_nstr F_mNstr B N, ⟨m_Nstr, (ba t_Nstr).1, (ba t_Nstr).2⟩, ⟨m_Nstr, (ba t_Nstr).1, F_mNstr.kp⟩, F_mNstr.binds fun _ _ _ _ _ _ us hl => match us, hl with | [_], _ => rfl⟩
  have I0 : HasI l.prog w K mg base D := ⟨g_Niter, gd_Niter, ok_niter F_mNiter B N, ⟨m_Niter, (ba t_Niter).1, (ba t_Niter).2⟩, F_mNiter.binds fun _ _ _ _ _ _ us hl => match us, hl with | [_], _ => rfl⟩
  have G_ninit : FnOk l.prog w K mg base CX0 7 g_Ninit gd_Ninit ["self", "size", "ties"] (spNInit K D) := ok_ninit F_mNinit N H_is_size H_is_applied_set
  have b_ninit : Binds K gd_Ninit ["self", "size", "ties"] [] := F_mNinit.binds fun _ _ _ _ _ _ us hl => match us, hl with | [_, _, _], _ => rfl
  have KN : Mk K D g_Ninit := ⟨Y.ms, m_Ninit, (ba t_Ninit).1, Y.kp⟩
  have NP_size : HasP l.prog w K mg base D 1 "size" (getSp D "_size") := ⟨p_Nsize, h_Nsize, hd_Nsize, ⟨q_Nsize, of_decide_eq_true (ba u_Nsize).1, of_decide_eq_true (ba u_Nsize).2, ⟨_, r_Nsize⟩⟩, ok_nsize F_pNsize N, F_pNsize.binds fun _ _ _ _ _ _ us hl => match us, hl with | [_], _ => rfl⟩
  have NP_ties : HasP l.prog w K mg base D 1 "ties" (getSp D "_ties") := ⟨p_Nties, h_Nties, hd_Nties, ⟨q_Nties, of_decide_eq_true (ba u_Nties).1, of_decide_eq_true (ba u_Nties).2, ⟨_, r_Nties⟩⟩, ok_nties F_pNties N, F_pNties.binds fun _ _ _ _ _ _ us hl => match us, hl with | [_], _ => rfl⟩
  have NP_names : HasP l.prog w K mg base D 1 "names" (spNmsN K D) := ⟨p_Nnames, h_Nnames, hd_Nnames, ⟨q_Nnames, of_decide_eq_true (ba u_Nnames).1, of_decide_eq_true (ba u_Nnames).2, ⟨_, r_Nnames⟩⟩, ok_nnames F_pNnames B N, F_pNnames.binds fun _ _ _ _ _ _ us hl => match us, hl with | [_], _ => rfl⟩
  have H_sack : Has l.prog w K mg base 1 "_law_sack" ["_law_script", "_law_at"] (spSack K) := ⟨f_sack, d_sack, ok_sack F_sack B, PySem.W.mg_of X G e_sack, F_sack.kp, F_sack.binds fun _ _ _ _ _ _ us hl => match us, hl with | [_, _], _ => rfl⟩
  have H_grab : Has l.prog w K mg base 1 "_law_grab" ["_law_sack_here", "_law_total"] spGrab := ⟨f_grab, d_grab, ok_grab F_grab B, PySem.W.mg_of X G e_grab, F_grab.kp, F_grab.binds fun _ _ _ _ _ _ us hl => match us, hl with | [_, _], _ => rfl⟩
  have H_one_of : Has l.prog w K mg base 2 "_law_one_of" ["_law_sack_here", "_law_items"] spOne := ⟨f_one_of, d_one_of, ok_one_of F_one_of B H_grab, PySem.W.mg_of X G e_one_of, F_one_of.kp, F_one_of.binds fun _ _ _ _ _ _ us hl => match us, hl with | [_, _], _ => rfl⟩
  have H_shuffled : Has l.prog w K mg base 2 "_law_shuffled" ["_law_sack_here", "_law_items"] spShuf := ⟨f_shuffled, d_shuffled, ok_shuffled F_shuffled B H_grab, PySem.W.mg_of X G e_shuffled, F_shuffled.kp, F_shuffled.binds fun _ _ _ _ _ _ us hl => match us, hl with | [_, _], _ => rfl⟩
  have H_letter : Has l.prog w K mg base 2 "_law_letter" ["_law_sack_here"] spLetter := ⟨f_letter, d_letter, ok_letter F_letter B H_grab, PySem.W.mg_of X G e_letter, F_letter.kp, F_letter.binds fun _ _ _ _ _ _ us hl => match us, hl with | [_], _ => rfl⟩
  have H_many_names : Has l.prog w K mg base 3 "_law_many_names" ["_law_sack_here", "_law_much"] spNames := ⟨f_many_names, d_many_names, ok_many_names F_many_names B H_grab H_letter H_shuffled, PySem.W.mg_of X G e_many_names, F_many_names.kp, F_many_names.binds fun _ _ _ _ _ _ us hl => match us, hl with | [_, _], _ => rfl⟩
  have H_spare : Has l.prog w K mg base 1 "_law_spare" ["_law_names"] (spSpare K) := ⟨f_spare, d_spare, ok_spare F_spare B, PySem.W.mg_of X G e_spare, F_spare.kp, F_spare.binds fun _ _ _ _ _ _ us hl => match us, hl with | [_], _ => rfl⟩
  have H_with : Has l.prog w K mg base 1 "_law_with" ["_law_record", "_law_word", "_law_value"] spWith := ⟨f_with, d_with, ok_with F_with B, PySem.W.mg_of X G e_with, F_with.kp, F_with.binds fun _ _ _ _ _ _ us hl => match us, hl with | [_, _, _], _ => rfl⟩
  have H_check_book : Has l.prog w K mg base 1 "check_book" ["book"] (spChB K C) := ⟨f_check_book, d_check_book, ok_check_book F_check_book B T, PySem.W.mg_of X G e_check_book, F_check_book.kp, F_check_book.binds fun _ _ _ _ _ _ us hl => match us, hl with | [_], _ => rfl⟩
  have H_check_net : Has l.prog w K mg base 1 "check_net" ["net"] (spChB K D) := ⟨f_check_net, d_check_net, ok_check_net F_check_net B N, PySem.W.mg_of X G e_check_net, F_check_net.kp, F_check_net.binds fun _ _ _ _ _ _ us hl => match us, hl with | [_], _ => rfl⟩
  have H_does_belong : Has l.prog w K mg base 4 "does_belong" ["book", "net"] (spBel K C D) := ⟨f_does_belong, d_does_belong, ok_does_belong F_does_belong B T N BP_names BM_places NP_ties, PySem.W.mg_of X G e_does_belong, F_does_belong.kp, F_does_belong.binds fun _ _ _ _ _ _ us hl => match us, hl with | [_, _], _ => rfl⟩
  have H_belongs : Has l.prog w K mg base 5 "belongs" ["book", "net"] (spBel K C D) := ⟨f_belongs, d_belongs, ok_belongs F_belongs H_check_book H_check_net H_does_belong, PySem.W.mg_of X G e_belongs, F_belongs.kp, F_belongs.binds fun _ _ _ _ _ _ us hl => match us, hl with | [_, _], _ => rfl⟩
  have H_made_net : Has l.prog w K mg base 9 "_law_made_net" ["_law_net"] (spMade K D) := ⟨f_made_net, d_made_net, ok_made_net F_made_net N KN G_ninit b_ninit, PySem.W.mg_of X G e_made_net, F_made_net.kp, F_made_net.binds fun _ _ _ _ _ _ us hl => match us, hl with | [_], _ => rfl⟩
  have H_wide_net : Has l.prog w K mg base 4 "_law_wide_net" ["_law_sack_here"] (spWideN K) := ⟨f_wide_net, d_wide_net, ok_wide_net F_wide_net B H_grab H_many_names H_one_of, PySem.W.mg_of X G e_wide_net, F_wide_net.kp, F_wide_net.binds fun _ _ _ _ _ _ us hl => match us, hl with | [_], _ => rfl⟩
  have H_is_net : HasG l.prog w K mg base 3 "_law_is_net" ["_law_made", "_law_plain"] (spIsNet K D) := ⟨f_is_net, d_is_net, ok_is_net F_is_net B N NP_size NP_ties, PySem.W.mg_of X G e_is_net, F_is_net.kp, F_is_net.binds fun _ _ _ _ _ _ us hl => match us, hl with | [_, _], _ => rfl⟩
  have H_near : Has l.prog w K mg base 2 "_law_near" ["_law_sack_here", "_law_plain"] (spNear K) := ⟨f_near, d_near, ok_near F_near B H_grab H_with, PySem.W.mg_of X G e_near, F_near.kp, F_near.binds fun _ _ _ _ _ _ us hl => match us, hl with | [_, _], _ => rfl⟩
  have H_all_right : HasG l.prog w K mg base 8 "_law_all_right" ["_law_made", "_law_plain"] (spAllRight K D) := ⟨f_all_right, d_all_right, ok_all_right F_all_right B N NP_names NM_contains NM_len I0 H_is_net H_spare, PySem.W.mg_of X G e_all_right, F_all_right.kp, F_all_right.binds fun _ _ _ _ _ _ us hl => match us, hl with | [_, _], _ => rfl⟩
  have H_belonging_right : Has l.prog w K mg base 10 "_law_belonging_right" ["_law_sack_here", "_law_made", "_law_plain"] (spBelR K D) := ⟨f_belonging_right, d_belonging_right, ok_belonging_right F_belonging_right B T N KM G_init b_init H_grab H_one_of H_belongs, PySem.W.mg_of X G e_belonging_right, F_belonging_right.kp, F_belonging_right.binds fun _ _ _ _ _ _ us hl => match us, hl with | [_, _, _], _ => rfl⟩
  have H_cell_right : HasG l.prog w K mg base 11 "_law_cell_right" ["_law_sack_here"] (spCell K) := ⟨f_cell_right, d_cell_right, ok_cell_right F_cell_right B N NO NM_eq NM_str H_all_right H_wide_net H_near H_made_net H_belonging_right, PySem.W.mg_of X G e_cell_right, F_cell_right.kp, F_cell_right.binds fun _ _ _ _ _ _ us hl => match us, hl with | [_], _ => rfl⟩
  exact ok_law F_law B T N KM G_init b_init KN G_ninit b_ninit H_cell_right H_sack H_belongs
end K7

set_option Elab.async false
set_option linter.all false
set_option maxRecDepth 100000
open PySem PySem.W PyProof.Rows
set_option maxHeartbeats 0 in
theorem PySem.Challenge.cw_setchooser_k07_nets_told_holds : PySem.Challenge.rw_setchooser_k07_nets_told.Holds := by
  w_on; o_law; k_head; (case hw => w_witness2)
  k_fill
  refine Gd.walk (l := PySem.Challenge.rw_setchooser_k07_nets_told) (n := 63) (k := 12) (x := "_law_script") (sp := fun w => K7.spLaw _) rfl (by decide) rfl ⟨rfl, by decide, by decide⟩ (fun w h Y => PySem.W.kIn_of Y) ?F (fun _ _ a ns hl hS => ⟨a, ns, rfl, hS, hl, fun _ => rfl⟩)
  case F =>
    intro w mg fa h KX G hmg
    refine' K7.all_mk KX G hmg ?e_is_integer (L2.fun_mk ?l_is_integer ?c_is_integer ?k_is_integer) ?e_is_number (L2.fun_mk ?l_is_number ?c_is_number ?k_is_number) ?e_is_below (L2.fun_mk ?l_is_below ?c_is_below ?k_is_below) ?e_is_name (L2.fun_mk ?l_is_name ?c_is_name ?k_is_name) ?e_is_ascending (L2.fun_mk ?l_is_ascending ?c_is_ascending ?k_is_ascending) ?e_is_row (L2.fun_mk ?l_is_row ?c_is_row ?k_is_row) ?e_is_rows (L2.fun_mk ?l_is_rows ?c_is_rows ?k_is_rows) ?e_is_tie (L2.fun_mk ?l_is_tie ?c_is_tie ?k_is_tie) ?e_is_ties (L2.fun_mk ?l_is_ties ?c_is_ties ?k_is_ties) ?e_is_size (L2.fun_mk ?l_is_size ?c_is_size ?k_is_size) ?e_is_unknowns (L2.fun_mk ?l_is_unknowns ?c_is_unknowns ?k_is_unknowns) ?e_is_applied (L2.fun_mk ?l_is_applied ?c_is_applied ?k_is_applied) ?e_is_applied_set (L2.fun_mk ?l_is_applied_set ?c_is_applied_set ?k_is_applied_set) ?e_first_from (L2.fun_mk ?l_first_from ?c_first_from ?k_first_from) ?e_sack (L2.fun_mk ?l_sack ?c_sack ?k_sack) ?e_grab (L2.fun_mk ?l_grab ?c_grab ?k_grab) ?e_one_of (L2.fun_mk ?l_one_of ?c_one_of ?k_one_of) ?e_shuffled (L2.fun_mk ?l_shuffled ?c_shuffled ?k_shuffled) ?e_letter (L2.fun_mk ?l_letter ?c_letter ?k_letter) ?e_many_names (L2.fun_mk ?l_many_names ?c_many_names ?k_many_names) ?e_spare (L2.fun_mk ?l_spare ?c_spare ?k_spare) ?e_with (L2.fun_mk ?l_with ?c_with ?k_with) ?e_check_book (L2.fun_mk ?l_check_book ?c_check_book ?k_check_book) ?e_check_net (L2.fun_mk ?l_check_net ?c_check_net ?k_check_net) ?e_does_belong (L2.fun_mk ?l_does_belong ?c_does_belong ?k_does_belong) ?e_belongs (L2.fun_mk ?l_belongs ?c_belongs ?k_belongs) ?e_made_net (L2.fun_mk ?l_made_net ?c_made_net ?k_made_net) ?e_wide_net (L2.fun_mk ?l_wide_net ?c_wide_net ?k_wide_net) ?e_is_net (L2.fun_mk ?l_is_net ?c_is_net ?k_is_net) ?e_near (L2.fun_mk ?l_near ?c_near ?k_near) ?e_all_right (L2.fun_mk ?l_all_right ?c_all_right ?k_all_right) ?e_belonging_right (L2.fun_mk ?l_belonging_right ?c_belonging_right ?k_belonging_right) ?e_cell_right (L2.fun_mk ?l_cell_right ?c_cell_right ?k_cell_right) ?e_law (L2.fun_mk ?l_law ?c_law ?k_law) (fun s v => .of_eq rfl) ?mB ?m_Bcontains (L2.fun_mk ?l_mBcontains ?c_mBcontains ?k_mBcontains) ?t_Bcontains ?m_Bplaces (L2.fun_mk ?l_mBplaces ?c_mBplaces ?k_mBplaces) ?t_Bplaces ?m_Binit (L2.fun_mk ?l_mBinit ?c_mBinit ?k_mBinit) ?t_Binit ?q_Bnames ?r_Bnames (L2.fun_mk ?l_pBnames ?c_pBnames ?k_pBnames) ?u_Bnames ?mN ?m_Nlen (L2.fun_mk ?l_mNlen ?c_mNlen ?k_mNlen) ?t_Nlen ?m_Ncontains (L2.fun_mk ?l_mNcontains ?c_mNcontains ?k_mNcontains) ?t_Ncontains ?m_Neq (L2.fun_mk ?l_mNeq ?c_mNeq ?k_mNeq) ?t_Neq ?m_Nstr (L2.fun_mk ?l_mNstr ?c_mNstr ?k_mNstr) ?t_Nstr ?m_Niter (L2.fun_mk ?l_mNiter ?c_mNiter ?k_mNiter) ?t_Niter ?m_Ninit (L2.fun_mk ?l_mNinit ?c_mNinit ?k_mNinit) ?t_Ninit ?q_Nsize ?r_Nsize (L2.fun_mk ?l_pNsize ?c_pNsize ?k_pNsize) ?u_Nsize ?q_Nties ?r_Nties (L2.fun_mk ?l_pNties ?c_pNties ?k_pNties) ?u_Nties ?q_Nnames ?r_Nnames (L2.fun_mk ?l_pNnames ?c_pNnames ?k_pNnames) ?u_Nnames ?cB ?cN ?gV ?vB ?n_letters_ ?w_letters_ ?n_alpha ?w_alpha ?n_long ?w_long ?n_values ?w_values ?n_ties ?w_ties ?n_places ?w_places ?n_unkn ?w_unkn ?n_appl ?w_appl ?z_isinstance ?z_int ?z_bool ?z_str ?z_all ?z_len ?z_zip ?z_repr ?z_tuple ?z_dict ?z_sorted ?z_property ?z_iter ?z_set ?z_list ?z_range ?z_max ?z_abs ?z_min
    (case e_is_integer => k_is)
    (case l_is_integer => k_is)
    (case c_is_integer => k_is)
    (case k_is_integer => k_is)
    (case e_is_number => k_is)
    (case l_is_number => k_is)
    (case c_is_number => k_is)
    (case k_is_number => k_is)
    (case e_is_below => k_is)
    (case l_is_below => k_is)
    (case c_is_below => k_is)
    (case k_is_below => k_is)
    (case e_is_name => k_is)
    (case l_is_name => k_is)
    (case c_is_name => k_is)
    (case k_is_name => k_is)
    (case e_is_ascending => k_is)
    (case l_is_ascending => k_is)
    (case c_is_ascending => k_is)
    (case k_is_ascending => k_is)
    (case e_is_row => k_is)
    (case l_is_row => k_is)
    (case c_is_row => k_is)
    (case k_is_row => k_is)
    (case e_is_rows => k_is)
    (case l_is_rows => k_is)
    (case c_is_rows => k_is)
    (case k_is_rows => k_is)
    (case e_is_tie => k_is)
    (case l_is_tie => k_is)
    (case c_is_tie => k_is)
    (case k_is_tie => k_is)
    (case e_is_ties => k_is)
    (case l_is_ties => k_is)
    (case c_is_ties => k_is)
    (case k_is_ties => k_is)
    (case e_is_size => k_is)
    (case l_is_size => k_is)
    (case c_is_size => k_is)
    (case k_is_size => k_is)
    (case e_is_unknowns => k_is)
    (case l_is_unknowns => k_is)
    (case c_is_unknowns => k_is)
    (case k_is_unknowns => k_is)
    (case e_is_applied => k_is)
    (case l_is_applied => k_is)
    (case c_is_applied => k_is)
    (case k_is_applied => k_is)
    (case e_is_applied_set => k_is)
    (case l_is_applied_set => k_is)
    (case c_is_applied_set => k_is)
    (case k_is_applied_set => k_is)
    (case e_first_from => k_is)
    (case l_first_from => k_is)
    (case c_first_from => k_is)
    (case k_first_from => k_is)
    (case e_sack => k_is)
    (case l_sack => k_is)
    (case c_sack => k_is)
    (case k_sack => k_is)
    (case e_grab => k_is)
    (case l_grab => k_is)
    (case c_grab => k_is)
    (case k_grab => k_is)
    (case e_one_of => k_is)
    (case l_one_of => k_is)
    (case c_one_of => k_is)
    (case k_one_of => k_is)
    (case e_shuffled => k_is)
    (case l_shuffled => k_is)
    (case c_shuffled => k_is)
    (case k_shuffled => k_is)
    (case e_letter => k_is)
    (case l_letter => k_is)
    (case c_letter => k_is)
    (case k_letter => k_is)
    (case e_many_names => k_is)
    (case l_many_names => k_is)
    (case c_many_names => k_is)
    (case k_many_names => k_is)
    (case e_spare => k_is)
    (case l_spare => k_is)
    (case c_spare => k_is)
    (case k_spare => k_is)
    (case e_with => k_is)
    (case l_with => k_is)
    (case c_with => k_is)
    (case k_with => k_is)
    (case e_check_book => k_is)
    (case l_check_book => k_is)
    (case c_check_book => k_is)
    (case k_check_book => k_is)
    (case e_check_net => k_is)
    (case l_check_net => k_is)
    (case c_check_net => k_is)
    (case k_check_net => k_is)
    (case e_does_belong => k_is)
    (case l_does_belong => k_is)
    (case c_does_belong => k_is)
    (case k_does_belong => k_is)
    (case e_belongs => k_is)
    (case l_belongs => k_is)
    (case c_belongs => k_is)
    (case k_belongs => k_is)
    (case e_made_net => k_is)
    (case l_made_net => k_is)
    (case c_made_net => k_is)
    (case k_made_net => k_is)
    (case e_wide_net => k_is)
    (case l_wide_net => k_is)
    (case c_wide_net => k_is)
    (case k_wide_net => k_is)
    (case e_is_net => k_is)
    (case l_is_net => k_is)
    (case c_is_net => k_is)
    (case k_is_net => k_is)
    (case e_near => k_is)
    (case l_near => k_is)
    (case c_near => k_is)
    (case k_near => k_is)
    (case e_all_right => k_is)
    (case l_all_right => k_is)
    (case c_all_right => k_is)
    (case k_all_right => k_is)
    (case e_belonging_right => k_is)
    (case l_belonging_right => k_is)
    (case c_belonging_right => k_is)
    (case k_belonging_right => k_is)
    (case e_cell_right => k_is)
    (case l_cell_right => k_is)
    (case c_cell_right => k_is)
    (case k_cell_right => k_is)
    (case e_law => k_is)
    (case l_law => k_is)
    (case c_law => k_is)
    (case k_law => k_is)
    (case mB => k_is)
    (case m_Bcontains => k_is)
    (case l_mBcontains => k_is)
    (case c_mBcontains => k_is)
    (case k_mBcontains => k_is)
    (case t_Bcontains => kernel_rfl)
    (case m_Bplaces => k_is)
    (case l_mBplaces => k_is)
    (case c_mBplaces => k_is)
    (case k_mBplaces => k_is)
    (case t_Bplaces => kernel_rfl)
    (case m_Binit => k_is)
    (case l_mBinit => k_is)
    (case c_mBinit => k_is)
    (case k_mBinit => k_is)
    (case t_Binit => kernel_rfl)
    (case q_Bnames => k_is)
    (case r_Bnames => k_is)
    (case l_pBnames => k_is)
    (case c_pBnames => k_is)
    (case k_pBnames => k_is)
    (case u_Bnames => kernel_rfl)
    (case mN => k_is)
    (case m_Nlen => k_is)
    (case l_mNlen => k_is)
    (case c_mNlen => k_is)
    (case k_mNlen => k_is)
    (case t_Nlen => kernel_rfl)
    (case m_Ncontains => k_is)
    (case l_mNcontains => k_is)
    (case c_mNcontains => k_is)
    (case k_mNcontains => k_is)
    (case t_Ncontains => kernel_rfl)
    (case m_Neq => k_is)
    (case l_mNeq => k_is)
    (case c_mNeq => k_is)
    (case k_mNeq => k_is)
    (case t_Neq => kernel_rfl)
    (case m_Nstr => k_is)
    (case l_mNstr => k_is)
    (case c_mNstr => k_is)
    (case k_mNstr => k_is)
    (case t_Nstr => kernel_rfl)
    (case m_Niter => k_is)
    (case l_mNiter => k_is)
    (case c_mNiter => k_is)
    (case k_mNiter => k_is)
    (case t_Niter => kernel_rfl)
    (case m_Ninit => k_is)
    (case l_mNinit => k_is)
    (case c_mNinit => k_is)
    (case k_mNinit => k_is)
    (case t_Ninit => kernel_rfl)
    (case q_Nsize => k_is)
    (case r_Nsize => k_is)
    (case l_pNsize => k_is)
    (case c_pNsize => k_is)
    (case k_pNsize => k_is)
    (case u_Nsize => kernel_rfl)
    (case q_Nties => k_is)
    (case r_Nties => k_is)
    (case l_pNties => k_is)
    (case c_pNties => k_is)
    (case k_pNties => k_is)
    (case u_Nties => kernel_rfl)
    (case q_Nnames => k_is)
    (case r_Nnames => k_is)
    (case l_pNnames => k_is)
    (case c_pNnames => k_is)
    (case k_pNnames => k_is)
    (case u_Nnames => kernel_rfl)
    (case cB => kernel_rfl)
    (case cN => kernel_rfl)
    (case gV => k_is)
    (case vB => kernel_rfl)
    (case n_letters_ => k_is)
    (case w_letters_ => rfl)
    (case n_alpha => k_is)
    (case w_alpha => rfl)
    (case n_long => k_is)
    (case w_long => rfl)
    (case n_values => k_is)
    (case w_values => rfl)
    (case n_ties => k_is)
    (case w_ties => rfl)
    (case n_places => k_is)
    (case w_places => rfl)
    (case n_unkn => k_is)
    (case w_unkn => rfl)
    (case n_appl => k_is)
    (case w_appl => rfl)
    (case z_isinstance => k_is)
    (case z_int => k_is)
    (case z_bool => k_is)
    (case z_str => k_is)
    (case z_all => k_is)
    (case z_len => k_is)
    (case z_zip => k_is)
    (case z_repr => k_is)
    (case z_tuple => k_is)
    (case z_dict => k_is)
    (case z_sorted => k_is)
    (case z_property => k_is)
    (case z_iter => k_is)
    (case z_set => k_is)
    (case z_list => k_is)
    (case z_range => k_is)
    (case z_max => k_is)
    (case z_abs => k_is)
    (case z_min => k_is)
