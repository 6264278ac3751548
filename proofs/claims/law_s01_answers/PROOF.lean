import PyProof.Rows.All
import Wide.All
import OpenK.AllK
import Wide.FinOn
import PyProof.EqAt
import PyProof.EqKinds
import PyProof.TupleCall
import Open.SpecLaws
import KE.OsHead
import KE.OsGo
import HandS.ForSpec
import HandS.ForMost
import KE.KDictZip
import HandS.Walk
import HandS.Conv
import PySem.Challenge.RW_twowants_s01_answers
set_option Elab.async false
set_option linter.all false
set_option maxRecDepth 100000
set_option maxHeartbeats 2000000
/-! Rules of my own: a call of what an expression gives; len(set(xs)) with doubles; a written dict with int keys. -/
namespace Tw
open PySem PySem.Spec PyProof.Rows L2

/-! f(e, ..), f any expression that gives a def -/
structure Kept (P : Program) (w : World) (K : PySem.W.Frag) (mg : Str → Option Value) (base : Heap) (k : Nat) (f : Addr) (sp : Sp) : Prop where
  ex : ∃ (j : Nat) (fd : FuncData) (ps : List Str),
    j ≤ k ∧ FnOk P w K mg base CX0 j f fd ps sp ∧ PySem.W.keepIn K (.ref f) = true ∧ Binds K fd ps []
def tCallE (k : Nat) (P : Program) (w : World) (K : PySem.W.Frag) (mg : Str → Option Value) (base : Heap) (tf : TE) (t : TA) : TE :=
  fun σ H Q => tf σ H fun v H1 => ∃ (f : Addr) (sp : Sp), v = .ref f ∧ Kept P w K mg base k f sp ∧ t σ H1 fun vs H2 => sp vs H2 Q E0
theorem pe_callE {X : Cx} {k : Nat} {fe e : Expr} {es : List Expr} {pos : Pos} {tf : TE} {t : TA}
    (hf : PE X fe tf) (hr : Room k X.A) (ha : PA X (e :: es) t)
    (hev : eval (.Call fe (e :: es) [] pos) X.env = (do callWith pos (← eval fe X.env) [] (backTo pos (starEach (e :: es) X.env)) (backToKw pos (keywordEach [] X.env))) := by rfl)
    (he : starEach (e :: es) X.env = (false, eval e X.env) :: starEach es X.env := by rfl)
    (hpl : (backTo pos (starEach es X.env)).any (·.1) = false := by rfl) :
    PE X (.Call fe (e :: es) [] pos) (tCallE k X.prog X.w X.K X.mg X.base tf t) := by
  constructor
  intro pins s σ H Q I h
  refine Call_ (thn (hf.run pins s σ H _ I h) ?_) hev
  rintro u s1 ⟨v, H1, I1, r1, f, sp, rfl, ⟨j, fd, ps, hj, F, hk, hb⟩, ht⟩
  cases r1
  have ht' : t σ H1 fun vs H2 => sp (vs ++ []) H2 Q E0 := by
    have e0 : (fun (vs : List V) (H2 : Hp) => sp (vs ++ []) H2 Q E0) = fun vs H2 => sp vs H2 Q E0 := by
      funext vs H2
      rw [List.append_nil]
    rw [e0]
    exact ht
  refine PySem.W.callWith_K (h₀ := X.base) I.ok.mod.kin hk (thn (ha.run pos pins s1 σ _ _ I1 ht') ?_) he hpl
  rintro us s2 ⟨vs, H2, I2, r, q⟩
  exact ⟨I2.kIn, run_fn F (hr.mono hj) hb .nil pass0 I2 r q⟩

/-! len(set(xs)) -/
def distinct (ns : List Int) : Nat := (firstMet (fun i => ns.getD i 0) ns.length).length
def tLenSetD (K : PySem.W.Frag) (ta : TE) : TE := fun σ H Q => ta σ H fun x H1 =>
  ∃ (l : Addr) (ns : List Int), x = V.ref l ∧ SqL K H1 l (ns.map V.int) ∧ ns.length < 64 ∧ Q (.int (distinct ns)) H1
theorem firstMet_len (f : Nat → Int) : ∀ i, (firstMet f i).length ≤ i
  | 0 => Nat.le_refl 0
  | i + 1 => by
    have ih := firstMet_len f i
    rw [firstMet_succ]
    unfold step_dedup
    split
    · omega
    · rw [List.length_append]
      show _ + 1 ≤ i + 1
      omega
theorem pe_lenSetD {X : Cx} {a : Expr} {ta : TE} {p p2 q pos : Pos} (hc : X.calm = true) (hg : Gl X "len") (hm : X.mg "len" = none) (hg2 : Gl X "set") (hm2 : X.mg "set" = none)
    (ha : PE X a ta) (na : starEach [a] X.env = (false, eval a X.env) :: starEach [] X.env := by rfl) :
    PE X (.Call (.Name "len" p) [.Call (.Name "set" p2) [a] [] q] [] pos) (tLenSetD X.K ta) := by
  constructor
  intro pins s σ H Q I h
  refine Call_ (ld_blt I hg hm boot_len (callWith_builtin1 (args_cons ?_ rfl) rfl rfl))
  refine Call_ (ld_blt I hg2 hm2 boot_set (callWith_type1 (args_cons (thn (ha.run pins s σ H _ I h) ?_) na) na rfl))
  rintro v s1 ⟨x, H1, I1, r1, l, ns, rfl, hq, hl, q1⟩
  cases r1
  obtain ⟨its, r, pl, hz⟩ := I1.list hq
  have hlen : its.toArray.size = ns.length := by
    rw [List.size_toArray, ← r.length, List.length_map]
  refine args_nil (call_set_list (I1.ok.hd hc) pl.isList (ns := ns) (by simpa using r.ints) (by unfold scanBound; omega) ?_)
  intro h' tk hS hk
  refine args_nil ?_
  rw [hlen] at hS
  obtain ⟨o, es, ep, t, ho, hex, hd, _, _, _, hf, hn⟩ := hS
  have hd3 := firstMet_len (fun i => ns.getD i 0) ns.length
  have I2 : Inv X pins σ H1 { s1 with heap := h', toks := tk } := I1.kept fun b o e => hk b o (Heap.lt_size e) e
  have e0 : distinct ns = es.size := hn.symm
  exact call_len_set ho hex hd hf (by omega) ⟨.int (distinct ns), H1, I2.tok _, ⟨_, by rw [e0]⟩, q1⟩

/-! a written dict whose keys are ints -/
def IntLit : List DictEntry → Prop
  | [] => True
  | e :: r => (∃ k t, e.key = .int k t ∧ e.hash = hashInt k) ∧ IntLit r
theorem IntLit.all : ∀ {l : List DictEntry}, IntLit l → ∀ e ∈ l, ∃ k t, e.key = .int k t ∧ e.hash = hashInt k
  | _ :: _, ⟨h, _⟩, _, .head _ => h
  | _ :: _, ⟨_, r⟩, _, .tail _ m => r.all _ m
/-- at a stands a written dict; under k it has r -/
def KInt (K : PySem.W.Frag) (a : Addr) (k : Int) (r : Option Value) : Prop :=
  ∃ es n, K.lookup a = some ⟨.type "dict", none, .dict es n, #[]⟩ ∧ IntLit es.toList ∧ findBy Value.isInt es k = r
theorem KInt.map {P : Program} {w : World} {K : PySem.W.Frag} {h : Heap} {a : Addr} {k : Int} {r : Option Value} (X : K.In h) (d : KInt K a k r) :
    ∃ f, h.MapOf (intKind P w) a f ∧ f k = r := by
  obtain ⟨es, n, hl, hk, e⟩ := d
  refine ⟨fun k => findBy Value.isInt es k, ⟨_, es, n, X _ _ hl, ⟨rfl, rfl, rfl⟩, rfl, ?_, fun _ => rfl⟩, e⟩
  intro e he
  obtain ⟨k, t, e1, e2⟩ := hk.all e (Array.mem_toList_iff.mpr he)
  exact ⟨k, by rw [e1]; exact intKind_is P w k t, e2⟩
def rIxI (K : PySem.W.Frag) : R2 := fun x y H Q => ∃ (p : Addr) (k : Int) (v : V) (u : Value), x = .ref p ∧ y = .int k ∧ KInt K p k (some u) ∧ RelV v u ∧ Q v H
theorem ix_kint {X : Cx} : IxR X (rIxI X.K) := by
  intro value slice pins s σ H x y v u Q I rx ry h hs
  obtain ⟨p, k, r, u0, rfl, rfl, d, ru, q⟩ := h
  obtain rfl : v = Value.ref p := rx
  obtain ⟨t, rfl⟩ := ry
  obtain ⟨f, hm, hv⟩ := d.map (P := X.prog) (w := X.w) I.kIn
  exact tail_any hm.typeIs slot_dict_getitem.lookup (wpAny_getItem_of (intKind_is X.prog X.w k t) hm hv ⟨r, H, I.tok _, ru, q⟩) hs
/-- d.get(k, x), d a written dict -/
def tGetI (K : PySem.W.Frag) (td ty tx : TE) : TE := fun σ H Q => td σ H fun x H1 => ∃ a, x = .ref a ∧ (∃ k r, KInt K a k r) ∧ (a == sysModules) = false ∧ ty σ H1 fun y H2 => tx σ H2 fun z H3 =>
  ∃ (k : Int) (r : Option Value) (v : V), y = .int k ∧ KInt K a k r ∧ (∀ uz, RelV z uz → RelV v (r.getD uz)) ∧ Q v H3
theorem pe_getI {X : Cx} {o e f : Expr} {apos cpos : Pos} {td ty tx : TE} (ho : PE X o td) (he : PE X e ty) (hf : PE X f tx) (m : M2 X o "get" apos e f cpos) :
    PE X (.Call (.Attribute o "get" apos) [e, f] [] cpos) (tGetI X.K td ty tx) := by
  constructor
  intro pins s σ H Q I h
  refine wpAny_Call_method m.base m.few m.line PySem.F.plainAttrs_dict PySem.F.slot_dict_get PySem.F.type_dict_get (thn (ho.run pins s σ H _ I h) ?_)
  rintro u s1 ⟨x, H1, I1, rx, a, rfl, ⟨k0, r0, d0⟩, ns, q1⟩
  obtain rfl : u = Value.ref a := rx
  obtain ⟨f0, hm0, _⟩ := d0.map (P := X.prog) (w := X.w) I1.kIn
  refine ⟨hm0.typeIs, ?_, ?_⟩
  · intro b e
    cases e
    obtain ⟨ob, _, _, h1, h2, _⟩ := hm0
    exact ⟨ob, h1, h2.2.1⟩
  rw [m.trees]
  refine Calls.callWith_builtin rfl (Calls.evalArgs_plain (Calls.spliced_cons (thn (he.run pins s1 σ H1 _ I1 q1) ?_)))
  rintro iv s2 ⟨y, H2, I2, ry, q2⟩
  refine Calls.spliced_cons (thn (hf.run pins s2 σ H2 _ I2 q2) ?_)
  rintro fv s3 ⟨z, H3, I3, rz, k, r, v, rfl, d, rv, q3⟩
  refine Calls.spliced_nil ?_
  obtain ⟨t, rfl⟩ := ry
  obtain ⟨f1, hm, hv⟩ := d.map (P := X.prog) (w := X.w) I3.kIn
  refine call_meetsIn PySem.F.slot_dict_get hm.typeIs PySem.F.entry_dict_get (PySem.F.args_dict_get_3 _ _ _) (meets_dict_get_default (intKind X.prog X.w) a (intKind_is X.prog X.w k t) ns fv) ⟨f1, hm, ⟨v, H3, I3.tok _, ?_, q3⟩⟩
  rw [hv]
  exact rv _ rz
end Tw

set_option maxRecDepth 100000
set_option maxHeartbeats 2000000
/-! More rules of my own: xs.extend(t), t a tuple; zip(xs, ys) walked with a plain name. -/
namespace Tw
open PySem PySem.Spec PyProof.Rows L2

/-! xs.extend(t) -/
theorem extT (l : Addr) (its : Array Value) (n : Nat) (b : Addr) (dd : Option Addr) (sl : Array (Option Value)) (ts : Array Value) (m : Nat) (h0 : ¬(!its.isEmpty && Builtin.List.listTooLong (its.size + ts.size)) = true) (h1 : its.size ≤ sizeLine) (h2 : its.size + ts.size ≤ sizeLine + 1) :
    Meets (Builtin.«list.extend» ⟨[.ref l, .ref b], []⟩) (fun _ R s => s.heap.get? l = some { cls := .type "list", dict := none, data := .seq its n, slots := #[] } ∧
      s.heap.get? b = some { cls := .type "tuple", dict := dd, data := .seq ts m, slots := sl } ∧ R (.ok (.ret Value.none)) { s with heap := s.heap.update l (Obj.mapSeq fun x => x ++ ts), toks := s.toks }) :=
  .of_wp fun prog w A R s h => by
    obtain ⟨hp, g, d, tk, os⟩ := s
    obtain ⟨e1, e2, h⟩ := h
    have f1 := AutoSeq1.idx_int
    have f2 := AutoSeq1.sub_tuple_tuple
    have f3 := AutoSeq1.sub_list_list
    have f4 := AutoSeq1.sub_tuple_list
    have f5 := AutoSeq1.sub_list_tuple
    have hz' : (its ++ ts).size ≤ sizeLine + 1 := by
      rw [Array.size_append]
      exact h2
    wp_walk using (wpAny_updateSeq e1 rfl (hz := h1) (_hz' := hz')), AutoSeq1.wpAny_loadPart' e1, AutoSeq1.wpAny_loadPart' e2
    exact ⟨_, rfl, h⟩
def rExtT (K : PySem.W.Frag) : V → List V → Hp → VK → Prop := fun x vs H Q => ∃ l b xs zs, x = .ref l ∧ vs = [.ref b] ∧ H l = some (.lst xs) ∧ SqT K H b zs ∧ xs.length + zs.length ≤ sizeLine ∧ Q .non (upd H l (.lst (xs ++ zs)))
theorem mt_extT {X : Cx} : MtM X "list.extend" (rExtT X.K) := by
  intro pins s σ H x vs v us Q I rx rv h
  obtain ⟨l, b, xs, zs, rfl, rfl, hH, hB, hz, q⟩ := h
  cases rx
  obtain ⟨u, rfl, ru⟩ := rv.one
  cases ru
  obtain ⟨z, its, n, r, hl, e⟩ := I.lstM hH
  obtain ⟨its2, r2, ⟨⟨c2, dd, dt, sl⟩, e2, hc2, n2, hd2⟩, hl2⟩ := I.tuple hB
  simp only at hc2 hd2
  subst hc2 hd2
  have l1 := r.length
  have l2 := r2.length
  have hsz : its.toArray.size + its2.toArray.size ≤ sizeLine := by
    rw [List.size_toArray, List.size_toArray]
    omega
  have h0 : ¬ (!its.toArray.isEmpty && Builtin.List.listTooLong (its.toArray.size + its2.toArray.size)) = true := by
    rw [notLongL hsz, Bool.and_false]
    exact Bool.false_ne_true
  refine call_meets F.slot_list_extend ⟨_, e, rfl⟩ F.entry_list_extend (F.args_list_extend_2 _ _) (extT l its.toArray n b dd sl its2.toArray n2 h0 (by omega) (by omega)) ⟨e, e2, .non, _, I.lset (its' := its ++ its2) hH e (by simp) (r.append r2) ?_, rfl, q⟩
  rw [List.length_append]
  omega

/-! zip(xs, ys) whose pairs go to one name -/
/-- a zip with its two first fields: the tuple that was given out last, a mark -/
abbrev ZF (h : Heap) (z TI TO : Addr) (u v : Value) : Prop :=
  h.get? z = some { cls := .type "zip", dict := none, data := .fields #[u, v, .bool false, .ref TI, .ref TO], slots := #[] }
section
variable {prog : Program} {w : World} {A : Around} {E : Value → Shared → Prop} {s : Shared}
theorem not_alive {a : Addr} {Q : Option Obj → Shared → Prop} (e : s.heap.get? a = none) (h : Q none s) : wpAny (model prog w) A (loadIfAlive a) Q E s := by
  have h' : Q (s.heap.get? a) s := by
    rw [e]
    exact h
  exact fun _ _ _ => h'
theorem zn_free {z TI TO : Addr} {u v : Value} {Q : Bool → Shared → Prop} (hz : ZF s.heap z TI TO u v) (hf : u = .none ∨ ∃ T : Addr, u = rawInt T ∧ s.heap.get? T = none) (h : Q true s) :
    wpAny (model prog w) A (Builtin.SmallTypes.ownedTupleIsFree (.ref z)) Q E s := by
  unfold Builtin.SmallTypes.ownedTupleIsFree
  rcases hf with rfl | ⟨T, rfl, e⟩
  · exact wpAny_bind (wpAny_field hz rfl (x := .none) rfl (wpAny_pure h))
  · refine wpAny_bind (wpAny_field hz rfl (x := rawInt T) rfl ?_)
    change wpAny _ _ (loadIfAlive ((T : Int).toNat) >>= _) _ _ _
    rw [Int.toNat_natCast]
    refine wpAny_bind (not_alive e ?_)
    simp only [Option.isNone_none, if_true]
    exact wpAny_pure h
theorem zn_item {z TI TO i1 i2 l1 l2 : Addr} {k1 k2 : Nat} {xs ys : Array Value} {x y a b u v : Value} {Q : Value → Shared → Prop} (D : ZipApart z TI TO i1 i2 l1 l2) (hz : ZF s.heap z TI TO u v)
    (hf : u = .none ∨ ∃ T : Addr, u = rawInt T ∧ s.heap.get? T = none) (pI : IsPair s.heap TI (.ref i1) (.ref i2)) (pO : IsPair s.heap TO a b) (j1 : s.heap.IsListIter i1 l1 k1) (j2 : s.heap.IsListIter i2 l2 k2)
    (hl1 : s.heap.IsList l1 xs) (hl2 : s.heap.IsList l2 ys) (hx : xs[k1]? = some x) (hy : ys[k2]? = some y)
    (hQ : ∀ h', ZF h' z TI TO (rawInt s.heap.objs.size) (.bool false) → IsPair h' TO x y → h'.IsListIter i1 l1 (k1 + 1) → h'.IsListIter i2 l2 (k2 + 1) → IsPair h' s.heap.objs.size x y →
      (∀ c o, c ≠ z → c ≠ TO → c ≠ i1 → c ≠ i2 → s.heap.get? c = some o → h'.get? c = some o) → Q (.ref s.heap.objs.size) { s with heap := h' }) :
    wpAny (model prog w) A (Builtin.«zip.__next__» ⟨[.ref z], []⟩) (fun fin s' => ∃ v, fin = .done (.ret v) ∧ Q v s') E s := by
  change wpAny _ _ (field (.ref z) 2 >>= _) _ _ _
  refine wpAny_bind (wpAny_field hz rfl (x := .bool false) rfl ?_); change wpAny _ _ (field (.ref z) 3 >>= _) _ _ _
  refine wpAny_bind (wpAny_field hz rfl (x := .ref TI) rfl (wpAny_bind (wpAny_seqItems pI rfl ?_)))
  change wpAny _ _ (Builtin.SmallTypes.ownedTupleIsFree (.ref z) >>= _) _ _ _
  refine wpAny_bind (zn_free hz hf ?_)
  simp only [if_true]
  refine wpAny_bind (wpAny_rule (wpAny_bind (wpAny_field hz rfl (x := .ref TO) rfl (wpAny_bind (wpAny_setField_rec hz (by simp) fun g1 e1 c1 => ?_)))))
  replace e1 : ZF g1 z TI TO .ellipsis v := e1
  refine wpAny_bind ?_
  simp only [List.zipIdx_cons, List.zipIdx_nil, List.forIn_cons, List.forIn_nil]
  -- the first
  refine wpAny_bind (wpAny_bind (wpAny_onRaise ?_)); change wpAny _ _ (Builtin.SmallTypes.nextOf (.ref i1) >>= _) _ _ _
  refine wpAny_bind (wpAny_nextOf_list_item (j1.extBut c1.extBut D.i1z) (hl1.extBut c1.extBut D.l1z) hx fun g2 e2 c2 => wpAny_pure ?_)
  have p2 : IsPair g2 TO a b := c2.extBut _ _ D.TOi1 (c1.extBut _ _ D.TOz pO)
  refine wpAny_bind (wpAny_seqItems p2 rfl (wpAny_bind (wpAny_updateSeq_pair p2 fun g3 p3 c3 => ?_)))
  replace p3 : IsPair g3 TO x b := p3
  refine wpAny_bind (wpAny_letGo (wpAny_pure ?_))
  -- the second
  refine wpAny_bind (wpAny_bind (wpAny_onRaise ?_)); change wpAny _ _ (Builtin.SmallTypes.nextOf (.ref i2) >>= _) _ _ _
  refine wpAny_bind (wpAny_nextOf_list_item (((j2.extBut c1.extBut D.i2z).extBut c2.extBut D.i12.symm).extBut c3.extBut D.TOi2.symm) (((hl2.extBut c1.extBut D.l2z).extBut c2.extBut D.l2i1).extBut c3.extBut D.l2TO) hy fun g4 e4 c4 => wpAny_pure ?_)
  have p4 : IsPair g4 TO x b := c4.extBut _ _ D.TOi2 p3
  refine wpAny_bind (wpAny_seqItems p4 rfl (wpAny_bind (wpAny_updateSeq_pair p4 fun g5 p5 c5 => ?_)))
  replace p5 : IsPair g5 TO x y := p5
  refine wpAny_bind (wpAny_letGo (wpAny_pure (wpAny_pure ?_)))
  -- the pair
  refine wpAny_bind (wpAny_seqItems p5 rfl (wpAny_bind (wpAny_newTuple ?_)))
  have sz : g5.objs.size = s.heap.objs.size := by rw [c5.1, c4.1, c3.1, c2.1, c1.1]
  have z5 : ZF g5 z TI TO .ellipsis v := c5.extBut _ _ D.TOz.symm (c4.extBut _ _ D.i2z.symm (c3.extBut _ _ D.TOz.symm (c2.extBut _ _ D.i1z.symm e1)))
  have kp : ∀ c o, c ≠ z → c ≠ TO → c ≠ i1 → c ≠ i2 → s.heap.get? c = some o → g5.get? c = some o := fun c o n1 n2 n3 n4 e =>
    c5.extBut _ _ n2 (c4.extBut _ _ n4 (c3.extBut _ _ n2 (c2.extBut _ _ n3 (c1.extBut _ _ n1 e))))
  have q1 : g5.IsListIter i1 l1 (k1 + 1) := ((e2.extBut c3.extBut D.TOi1.symm).extBut c4.extBut D.i12).extBut c5.extBut D.TOi1.symm
  have q2 : g5.IsListIter i2 l2 (k2 + 1) := e4.extBut c5.extBut D.TOi2.symm
  have lt : z < g5.objs.size := Heap.lt_size z5
  change wpAny _ _ (Builtin.SmallTypes.ownedTupleHandOut (.ref z) (.ref g5.objs.size) >>= _) _ _ _
  refine wpAny_bind ?_
  unfold Builtin.SmallTypes.ownedTupleHandOut
  have z6 : ZF (g5.push { cls := .type "tuple", data := .seq #[x, y] }) z TI TO .ellipsis v := Heap.get?_push_of_some _ z5
  refine wpAny_bind (wpAny_setField_rec z6 (by simp) fun g7 z7 c7 => ?_)
  replace z7 : ZF g7 z TI TO (rawInt g5.objs.size) v := z7
  refine wpAny_setField_rec z7 (by simp) fun g8 z8 c8 => ?_
  replace z8 : ZF g8 z TI TO (rawInt g5.objs.size) (.bool false) := z8
  have up : ∀ c o, c ≠ z → g5.get? c = some o → g8.get? c = some o := fun c o n e => c8.extBut _ _ n (c7.extBut _ _ n (Heap.get?_push_of_some _ e))
  have t8 : IsPair g8 g5.objs.size x y := c8.extBut _ _ (Nat.ne_of_gt lt) (c7.extBut _ _ (Nat.ne_of_gt lt) (Heap.get?_push_size _ rfl))
  rw [sz] at z8 t8
  refine wpAny_pure ⟨_, rfl, ?_⟩
  change Q (.ref g5.objs.size) _
  rw [sz]
  exact hQ g8 z8 (up _ _ D.TOz p5) (q1.at fun o e => up _ o D.i1z e) (q2.at fun o e => up _ o D.i2z e) t8 fun c o n1 n2 n3 n4 e => up c o n1 (kp c o n1 n2 n3 n4 e)
theorem zn_end {z TI TO i1 i2 l1 l2 : Addr} {k1 k2 : Nat} {xs ys : Array Value} {a b u v : Value} {Q : Fin → Shared → Prop} (hh : A.handled = none) (D : ZipApart z TI TO i1 i2 l1 l2) (hz : ZF s.heap z TI TO u v)
    (hf : u = .none ∨ ∃ T : Addr, u = rawInt T ∧ s.heap.get? T = none) (pI : IsPair s.heap TI (.ref i1) (.ref i2)) (pO : IsPair s.heap TO a b) (j1 : s.heap.IsListIter i1 l1 k1) (j2 : s.heap.IsListIter i2 l2 k2)
    (hl1 : s.heap.IsList l1 xs) (hl2 : s.heap.IsList l2 ys) (he : xs[k1]? = none ∨ ys[k2]? = none)
    (hE : ∀ h' e, (∀ c o, c ≠ z → c ≠ TO → c ≠ i1 → c ≠ i2 → s.heap.get? c = some o → h'.get? c = some o) → (∃ o, h'.get? e = some o ∧ o.cls = .type "StopIteration") → E (.ref e) { s with heap := h' }) :
    wpAny (model prog w) A (Builtin.«zip.__next__» ⟨[.ref z], []⟩) Q E s := by
  change wpAny _ _ (field (.ref z) 2 >>= _) _ _ _
  refine wpAny_bind (wpAny_field hz rfl (x := .bool false) rfl ?_); change wpAny _ _ (field (.ref z) 3 >>= _) _ _ _
  refine wpAny_bind (wpAny_field hz rfl (x := .ref TI) rfl (wpAny_bind (wpAny_seqItems pI rfl ?_)))
  change wpAny _ _ (Builtin.SmallTypes.ownedTupleIsFree (.ref z) >>= _) _ _ _
  refine wpAny_bind (zn_free hz hf ?_)
  simp only [if_true]
  refine wpAny_bind (wpAny_rule (wpAny_bind (wpAny_field hz rfl (x := .ref TO) rfl (wpAny_bind (wpAny_setField_rec hz (by simp) fun g1 e1 c1 => ?_)))))
  replace e1 : ZF g1 z TI TO .ellipsis v := e1
  refine wpAny_bind ?_
  simp only [List.zipIdx_cons, List.zipIdx_nil, List.forIn_cons, List.forIn_nil]
  refine wpAny_bind (wpAny_bind (wpAny_onRaise ?_)); change wpAny _ _ (Builtin.SmallTypes.nextOf (.ref i1) >>= _) _ _ _
  -- a zip is no StopIteration
  have ne : ∀ {h : Heap} {e : Addr} {o : Obj}, ZF h z TI TO .ellipsis v → h.get? e = some o → o.cls = .type "StopIteration" → e ≠ z := fun a1 a2 a3 q => by
    subst q
    rw [a1] at a2
    cases a2
    simp at a3
  cases ex : xs[k1]? with
  | none =>
    refine wpAny_bind (wpAny_nextOf_list_end hh (j1.extBut c1.extBut D.i1z) (hl1.extBut c1.extBut D.l1z) ex fun g2 e c2 q => ?_)
    obtain ⟨oe, o1, o2⟩ := q
    have z2 : ZF g2 z TI TO .ellipsis v := c2 _ _ D.i1z.symm e1
    refine wpAny_setField_rec z2 (by simp) fun g3 _ c3 => hE g3 e (fun c o n1 _ n3 _ q => c3.extBut _ _ n1 (c2 _ _ n3 (c1.extBut _ _ n1 q))) ⟨oe, c3.extBut _ _ (ne z2 o1 o2) o1, o2⟩
  | some x =>
    have ey : ys[k2]? = none := by
      rcases he with q | q
      · rw [ex] at q
        cases q
      · exact q
    refine wpAny_bind (wpAny_nextOf_list_item (j1.extBut c1.extBut D.i1z) (hl1.extBut c1.extBut D.l1z) ex fun g2 e2 c2 => wpAny_pure ?_)
    have p2 : IsPair g2 TO a b := c2.extBut _ _ D.TOi1 (c1.extBut _ _ D.TOz pO)
    refine wpAny_bind (wpAny_seqItems p2 rfl (wpAny_bind (wpAny_updateSeq_pair p2 fun g3 p3 c3 => wpAny_bind (wpAny_letGo (wpAny_pure ?_)))))
    refine wpAny_bind (wpAny_bind (wpAny_onRaise ?_)); change wpAny _ _ (Builtin.SmallTypes.nextOf (.ref i2) >>= _) _ _ _
    refine wpAny_bind (wpAny_nextOf_list_end hh (((j2.extBut c1.extBut D.i2z).extBut c2.extBut D.i12.symm).extBut c3.extBut D.TOi2.symm) (((hl2.extBut c1.extBut D.l2z).extBut c2.extBut D.l2i1).extBut c3.extBut D.l2TO) ey fun g4 e c4 q => ?_)
    obtain ⟨oe, o1, o2⟩ := q
    have z4 : ZF g4 z TI TO .ellipsis v := c4 _ _ D.i2z.symm (c3.extBut _ _ D.TOz.symm (c2.extBut _ _ D.i1z.symm e1))
    refine wpAny_setField_rec z4 (by simp) fun g5 _ c5 => hE g5 e (fun c o n1 n2 n3 n4 q => c5.extBut _ _ n1 (c4 _ _ n4 (c3.extBut _ _ n2 (c2.extBut _ _ n3 (c1.extBut _ _ n1 q))))) ⟨oe, c5.extBut _ _ (ne z4 o1 o2) o1, o2⟩

/-- the two first fields of a zip between two turns -/
def ZOk (u v : Value) : Prop := u = .none ∧ v = .bool false ∨ ∃ (T : Addr) (f : Bool), u = rawInt T ∧ v = .bool f
theorem next_item {z TI TO i1 i2 l1 l2 : Addr} {k : Nat} {xs ys : Array Value} {x y a b u v : Value} {Q : Option Value → Shared → Prop} (D : ZipApart z TI TO i1 i2 l1 l2) (hz : ZF s.heap z TI TO u v) (hf : ZOk u v)
    (pI : IsPair s.heap TI (.ref i1) (.ref i2)) (pO : IsPair s.heap TO a b) (j1 : s.heap.IsListIter i1 l1 k) (j2 : s.heap.IsListIter i2 l2 k) (hl1 : s.heap.IsList l1 xs) (hl2 : s.heap.IsList l2 ys) (hx : xs[k]? = some x) (hy : ys[k]? = some y)
    (hQ : ∀ h' u' v' a' b', ZF h' z TI TO u' v' → ZOk u' v' → IsPair h' TO a' b' → h'.IsListIter i1 l1 (k + 1) → h'.IsListIter i2 l2 (k + 1) → IsPair h' s.heap.objs.size x y →
      (∀ c o, c ≠ z → c ≠ TO → c ≠ i1 → c ≠ i2 → s.heap.get? c = some o → h'.get? c = some o) → Q (some (.ref s.heap.objs.size)) { s with heap := h' }) :
    wpAny (model prog w) A (pyNext (.ref z)) Q E s := by
  have hT : s.TypeIs (.ref z) "zip" := ⟨_, hz, rfl⟩
  have free : (u = .none ∨ ∃ T : Addr, u = rawInt T ∧ s.heap.get? T = none) → wpAny (model prog w) A (pyNext (.ref z)) Q E s := fun hf => by
    unfold pyNext
    exact wpAny_bind (wpAny_attempt (wpAny_callSpecial?_slot (name := Str.ofString "__next__") hT F.slot_zip_next (wpAny_call_entry F.slot_zip_next hT F.entry_zip_next
      (zn_item D hz hf pI pO j1 j2 hl1 hl2 hx hy fun h' a1 a2 a3 a4 a5 a6 => wpAny_pure (hQ h' _ _ _ _ a1 (.inr ⟨_, _, rfl, rfl⟩) a2 a3 a4 a5 a6)) (F.args_zip_next_1 _))))
  rcases hf with ⟨rfl, rfl⟩ | ⟨T, f, rfl, rfl⟩
  · exact free (.inl rfl)
  · cases e : s.heap.get? T with
    | none => exact free (.inr ⟨T, rfl, e⟩)
    | some oT => exact wpAny_pyNext_zip_item_held D hz e pI j1 j2 hl1 hl2 hx hy fun h' a1 a3 a4 a5 _ hk => hQ h' _ _ a b a1 (.inr ⟨_, _, rfl, rfl⟩) (hk _ _ D.TOz D.TOi1 D.TOi2 pO) a3 a4 a5 fun c o n1 _ n3 n4 q => hk c o n1 n3 n4 q
theorem next_end {z TI TO i1 i2 l1 l2 : Addr} {k : Nat} {xs ys : Array Value} {a b u v : Value} {Q : Option Value → Shared → Prop} (hh : A.handled = none) (D : ZipApart z TI TO i1 i2 l1 l2) (hz : ZF s.heap z TI TO u v) (hf : ZOk u v)
    (pI : IsPair s.heap TI (.ref i1) (.ref i2)) (pO : IsPair s.heap TO a b) (j1 : s.heap.IsListIter i1 l1 k) (j2 : s.heap.IsListIter i2 l2 k) (hl1 : s.heap.IsList l1 xs) (hl2 : s.heap.IsList l2 ys) (he : xs[k]? = none ∨ ys[k]? = none)
    (hQ : ∀ h', (∀ c o, c ≠ z → c ≠ TO → c ≠ i1 → c ≠ i2 → s.heap.get? c = some o → h'.get? c = some o) → Q none { s with heap := h' }) :
    wpAny (model prog w) A (pyNext (.ref z)) Q E s := by
  have hT : s.TypeIs (.ref z) "zip" := ⟨_, hz, rfl⟩
  have free : (u = .none ∨ ∃ T : Addr, u = rawInt T ∧ s.heap.get? T = none) → wpAny (model prog w) A (pyNext (.ref z)) Q E s := fun hf => by
    unfold pyNext
    refine wpAny_bind (wpAny_attempt (wpAny_callSpecial?_slot (name := Str.ofString "__next__") hT F.slot_zip_next (wpAny_call_entry F.slot_zip_next hT F.entry_zip_next (zn_end hh D hz hf pI pO j1 j2 hl1 hl2 he fun h' e hk q => ?_) (F.args_zip_next_1 _))))
    obtain ⟨o, o1, o2⟩ := q
    exact wpAny_bind (wpAny_isInstance (T := "StopIteration") (b := true) ⟨o, o1, o2⟩ isSubtype_stop (wpAny_pure (hQ _ hk)))
  rcases hf with ⟨rfl, rfl⟩ | ⟨T, f, rfl, rfl⟩
  · exact free (.inl rfl)
  · cases e : s.heap.get? T with
    | none => exact free (.inr ⟨T, rfl, e⟩)
    | some oT => exact wpAny_pyNext_zip_end_held hh D hz e pI j1 j2 hl1 hl2 he fun h' hk => hQ h' fun c o n1 _ n3 n4 q => hk c o n1 n3 n4 q
end
theorem turn_zn {P : Program} {w : World} {K : PySem.W.Frag} {nm : Str} {tpos : Pos} {a b z TI TO i1 i2 : Addr} (D : ZipApart z TI TO i1 i2 a b) :
    Turn P w K (.Name nm tpos) (Itz K a b) [z, TI, TO, i1, i2] z (fun i h => (∃ u v, ZF h z TI TO u v ∧ ZOk u v) ∧ IsPair h TI (.ref i1) (.ref i2) ∧ (∃ x y, IsPair h TO x y) ∧ h.IsListIter i1 a i ∧ h.IsListIter i2 b i) where
  mem := by simp
  obj := fun i h st c hc => by
    obtain ⟨⟨u, v, hz, _⟩, pI, ⟨x, y, pO⟩, ⟨o1, e1, _, d1⟩, ⟨o2, e2, _, d2⟩⟩ := st
    simp only [List.mem_cons, List.not_mem_nil, or_false] at hc
    rcases hc with rfl | rfl | rfl | rfl | rfl
    · exact ⟨_, hz, fun v q => nomatch q⟩
    · exact ⟨_, pI, fun v q => nomatch q⟩
    · exact ⟨_, pO, fun v q => nomatch q⟩
    · exact ⟨o1, e1, fun v q => by rw [d1] at q; cases q⟩
    · exact ⟨o2, e2, fun v q => by rw [d2] at q; cases q⟩
  keep := fun i h h' st k => by
    obtain ⟨⟨u, v, hz, hf⟩, pI, ⟨x, y, pO⟩, j1, j2⟩ := st
    exact ⟨⟨u, v, k z (by simp) _ hz, hf⟩, k TI (by simp) _ pI, ⟨x, y, k TO (by simp) _ pO⟩, j1.at fun o q => k i1 (by simp) o q, j2.at fun o q => k i2 (by simp) o q⟩
  item := by
    intro X hP hw hK hc i pins s σ H E I hfp st hg
    subst hP hw hK
    obtain ⟨⟨u0, v0, hz, hf⟩, pI, ⟨x0, y0, pO⟩, j1, j2⟩ := st
    obtain ⟨xs, ys, x, y, sx, sy, hx, hy⟩ := hg
    obtain ⟨its, rv, p, _⟩ := I.list sx
    obtain ⟨its2, rv2, p2, _⟩ := I.list sy
    obtain ⟨u, hu, ru⟩ := rv.get hx
    obtain ⟨u2, hu2, ru2⟩ := rv2.get hy
    have lz : z < s.heap.objs.size := Heap.lt_size hz
    refine next_item D hz hf pI pO j1 j2 p.isList p2.isList (x := u) (y := u2) (by simpa using hu) (by simpa using hu2) fun h' u' v' a' b' z' f' pO' j1' j2' pT hk => ⟨_, rfl, wpAny_pure ?_⟩
    have new : ObjOk X.prog X.w (upd H s.heap.objs.size (.tup [x, y])) h' s.heap.objs.size (.tup [x, y]) :=
      ⟨by show 2 ≤ sizeLine; decide, [u, u2], .cons ru (.cons ru2 .nil), ⟨_, pT, rfl, _, rfl⟩⟩
    have I1 : Inv X pins σ (upd H s.heap.objs.size (.tup [x, y])) { s with heap := h' } :=
      I.turnedNew (t' := s.toks) (ch := [z, TI, TO, i1, i2]) (fun c o hb q => hk c o (fun e => hb (by simp [e])) (fun e => hb (by simp [e])) (fun e => hb (by simp [e])) (fun e => hb (by simp [e])) q) hfp (Nat.le_refl _) new
    refine ⟨.ref s.heap.objs.size, _, I1, rfl, ⟨_, x, y, rfl, I.hok.fresh (Nat.le_refl _), rfl, fun l hl => by rw [I.list_inj hl sx]; exact hx, fun l hl => by rw [I.list_inj hl sy]; exact hy⟩, ⟨⟨u', v', z', f'⟩, hk _ _ D.TIz D.TITO D.TIi1 D.TIi2 pI, ⟨a', b', pO'⟩, j1', j2'⟩, fun c hcm => ?_⟩
    have hlt : c < s.heap.objs.size := by
      have hcm' := hcm
      simp only [List.mem_cons, List.not_mem_nil, or_false] at hcm'
      rcases hcm' with q | q | q | q | q
      · rw [q]; exact lz
      · rw [q]; exact Heap.lt_size pI
      · rw [q]; exact Heap.lt_size pO
      · rw [q]; obtain ⟨_, e1, _⟩ := j1; exact Heap.lt_size e1
      · rw [q]; obtain ⟨_, e2, _⟩ := j2; exact Heap.lt_size e2
    rw [upd_ne (Nat.ne_of_lt hlt)]
    exact (hfp c hcm).1
  done := by
    intro X hP hw hK hc i pins s σ H E I hfp st hg
    subst hP hw hK
    obtain ⟨⟨u0, v0, hz, hf⟩, pI, ⟨x0, y0, pO⟩, j1, j2⟩ := st
    obtain ⟨xs, ys, sx, sy, he⟩ := hg
    obtain ⟨its, rv, p, _⟩ := I.list sx
    obtain ⟨its2, rv2, p2, _⟩ := I.list sy
    have l1 := rv.length
    have l2 := rv2.length
    have he' : its.toArray[i]? = none ∨ its2.toArray[i]? = none := by
      rcases he with q | q
      · exact .inl (by simp; omega)
      · exact .inr (by simp; omega)
    exact next_end (I.ok.hd hc) D hz hf pI pO j1 j2 p.isList p2.isList he' fun h' hk => ⟨rfl, I.turnedL (t' := s.toks) (ch := [z, TI, TO, i1, i2]) (fun c o hb q =>
      hk c o (fun e => hb (by simp [e])) (fun e => hb (by simp [e])) (fun e => hb (by simp [e])) (fun e => hb (by simp [e])) q) hfp⟩
  self := fun A i s Q E st h => by
    obtain ⟨⟨u, v, hz, _⟩, _⟩ := st
    have hT : s.TypeIs (.ref z) "zip" := ⟨_, hz, rfl⟩
    refine wpAny_pyIter_slot hT F.slot_zip_iter (wpAny_call_entry F.slot_zip_iter hT F.entry_zip_iter ?_ (F.args_zip_iter_1 _))
    change wpAny _ _ (ret (.ref z)) _ _ s
    exact wpAny_pure ⟨_, rfl, "zip", _, hT, F.slot_zip_next.lookup, h⟩
theorem pi_zn {X : Cx} {e e2 : Expr} {ta : TA} {p pos tpos : Pos} {nm : Str} (hg : Gl X "zip") (hm : X.mg "zip" = none) (ha : PA X [e, e2] ta)
    (hs : starEach [e, e2] X.env = (false, eval e X.env) :: starEach [e2] X.env := by rfl) (hpl : (backTo pos (starEach [e2] X.env)).any (·.1) = false := by rfl) :
    PI X (.Name nm tpos) (.Call (.Name "zip" p) [e, e2] [] pos) (iZip X.K ta) := by
  refine ⟨fun pins s σ H R I h => Call_ (ld_blt I hg hm PyProof.Rows.boot_zip (PyProof.Rows.callWith_type1 (thn (ha.run pos pins s σ H _ I h) fun us s1 ⟨vs, H1, I1, r1, q1⟩ => ?_) hs hpl))⟩
  obtain ⟨a, b, xs, ys, ex, sx, sy, q⟩ := q1
  subst ex
  obtain ⟨u1, u2, rfl, r, r'⟩ := r1.two
  cases r
  cases r'
  obtain ⟨its, rv, p1, _⟩ := I1.list sx
  obtain ⟨its2, rv2, p2, _⟩ := I1.list sy
  refine call_zip_2 p1.isList p2.isList fun h' hz pI pO j1 j2 _ hk => wpAny_pyIter_zip hz ?_
  have I2 : Inv X pins σ H1 { s1 with heap := h' } := I1.kept (t' := s1.toks) hk
  refine ⟨s1.heap.objs.size + 4, [s1.heap.objs.size + 4, s1.heap.objs.size + 2, s1.heap.objs.size + 3, s1.heap.objs.size, s1.heap.objs.size + 1], _, _, H1, rfl, I2, turn_zn (PySem.W.ktu_apart s1.heap.objs.size a b p1.lt p2.lt), ⟨⟨_, _, hz, .inl ⟨rfl, rfl⟩⟩, pI, ⟨_, _, pO⟩, j1, j2⟩, fun c hcm => ?_, q⟩
  have hle : s1.heap.objs.size ≤ c := by
    simp only [List.mem_cons, List.not_mem_nil, or_false] at hcm
    rcases hcm with z | z | z | z | z
    all_goals (rw [z]; first | exact Nat.le_refl _ | exact Nat.le_add_right _ _)
  exact I1.fpOk hle (I1.hok.fresh hle)
end Tw

set_option maxRecDepth 100000
set_option maxHeartbeats 2000000
/-! The desk in memory; loops and comprehensions that only read. -/
namespace Tw
open PySem PySem.Spec PyProof.Rows L2
open Krcj (Game Plan)
open Krcm (Desk)

abbrev top (i : Nat) : Stmt := PySem.Challenge.pw_twowants_s01_answers.main.body.getD i (.Pass ⟨0, 0, 0, 0⟩)

/-- numbers as they stand in a list -/
def vi (l : List Nat) : List V := l.map fun (x : Nat) => V.int (x : Int)
theorem vi_ints (l : List Nat) : vi l = (Krcj.ints l).map V.int := by
  unfold vi Krcj.ints
  rw [List.map_map]
  rfl
theorem vi_len (l : List Nat) : (vi l).length = l.length := List.length_map ..
theorem vi_at {l : List Nat} {i : Nat} (h : i < l.length) : (vi l)[i]? = some (V.int (l.getD i 0 : Nat)) := by
  unfold vi
  rw [List.getElem?_map, List.getElem?_eq_getElem h, List.getD_eq_getElem?_getD, List.getElem?_eq_getElem h]
  rfl
theorem vi_app (l r : List Nat) : vi (l ++ r) = vi l ++ vi r := List.map_append ..
theorem vi_snoc (l : List Nat) (x : Nat) : vi (l ++ [x]) = vi l ++ [V.int (x : Int)] := List.map_append ..

/-- the object's values -/
def tf (b : Bool) (n m k : Int) (aw ap an ag ad : Addr) : List (Str × V) :=
  [("begun", .bl b), ("ways", .int n), ("signs", .int m), ("acts", .int k), ("weights", .ref aw), ("pays", .ref ap), ("wants", .ref an), ("given", .ref ag), ("done", .ref ad)]
/-- where the parts of a desk stand -/
structure Ads where
  a : Addr
  x : Addr
  w : Addr
  p : Addr
  n : Addr
  g : Addr
  d : Addr
structure Tab (C : Addr) (H : Hp) (A : Ads) (d : Desk) : Prop where
  ins : H A.a = some (.ins C A.x (tf true d.g.n d.g.m d.g.k A.w A.p A.n A.g A.d))
  w : H A.w = some (.lst (vi d.g.weights))
  p : H A.p = some (.lst (vi d.g.pays))
  n : H A.n = some (.lst (vi d.wants))
  g : H A.g = some (.lst (vi d.p.send))
  d : H A.d = some (.lst (vi d.p.act))
  wp : A.w ≠ A.p
  wn : A.w ≠ A.n
  wg : A.w ≠ A.g
  wd : A.w ≠ A.d
theorem Tab.same {C : Addr} {H H' : Hp} {A : Ads} {d : Desk} (t : Tab C H A d) (s : Same H H') : Tab C H' A d :=
  ⟨s _ _ t.ins, s _ _ t.w, s _ _ t.p, s _ _ t.n, s _ _ t.g, s _ _ t.d, t.wp, t.wn, t.wg, t.wd⟩
/-- a list of so many numbers below some number -/
def RowOk (l : List Nat) (n b : Nat) : Prop := l.length = n ∧ ∀ x ∈ l, x < b
structure Ok (d : Desk) : Prop where
  n1 : 1 ≤ d.g.n
  n3 : d.g.n ≤ 3
  m1 : 1 ≤ d.g.m
  m3 : d.g.m ≤ 3
  k1 : 1 ≤ d.g.k
  k3 : d.g.k ≤ 3
  w : d.g.weights.length = d.g.n
  w9 : ∀ x ∈ d.g.weights, 1 ≤ x ∧ x ≤ 9
  p : RowOk d.g.pays (d.g.n * d.g.k) 10
  n : RowOk d.wants (d.g.n * d.g.k) 10
  g : RowOk d.p.send d.g.n d.g.m
  d : RowOk d.p.act d.g.m d.g.k
theorem RowOk.get {l : List Nat} {n b i : Nat} (h : RowOk l n b) (hi : i < n) : l.getD i 0 < b := by
  have hl : i < l.length := by rw [h.1]; exact hi
  rw [List.getD_eq_getElem?_getD, List.getElem?_eq_getElem hl]
  exact h.2 _ (List.getElem_mem hl)
theorem RowOk.at {l : List Nat} {n b i : Nat} (h : RowOk l n b) (hi : i < n) : (vi l)[i]? = some (V.int (l.getD i 0 : Nat)) := vi_at (by rw [h.1]; exact hi)
theorem Ok.wlt {d : Desk} (o : Ok d) {i : Nat} (hi : i < d.g.n) : d.g.weight i ≤ 9 := by
  have hl : i < d.g.weights.length := by rw [o.w]; exact hi
  unfold Game.weight
  rw [List.getD_eq_getElem?_getD, List.getElem?_eq_getElem hl]
  exact (o.w9 _ (List.getElem_mem hl)).2
theorem place_lt {s a n k : Nat} (hs : s < n) (ha : a < k) : s * k + a < n * k := by
  have h1 : (s + 1) * k ≤ n * k := Nat.mul_le_mul_right k hs
  rw [Nat.succ_mul] at h1
  omega

theorem same_new {H : Hp} {p : Addr} {o : HO} (h : H p = none) : Same H (upd H p o) := fun b u e => by
  rw [upd_ne (ne_of_none e h)]
  exact e
theorem same_put {H H' : Hp} {p : Addr} {o : HO} (s : Same H H') (h : H p = none) : Same H (upd H' p o) := fun b u e => by
  rw [upd_ne (ne_of_none e h)]
  exact s b u e

/-- a comprehension over a range that only reads: its list, what it made -/
theorem lcR {n : Nat} {g : TG} {te : TE} {vs : List Nat} {σ : L2.St} {H1 : Hp} {D : Addr} {Qd : Hp → Prop} (F : Nat → V) (hD : H1 D = none) (hn : n < sizeLine)
    (hs : ∀ (i : Nat) (H : Hp) (Q : VK), i < n → Same H1 H → (∀ H', Same H H' → Q (F i) H') → g (.int ((0 : Int) + (i : Nat))) (wipe σ vs) H fun σ2 H2 => wipe σ2 vs = wipe σ vs ∧ te σ2 H2 Q)
    (mono : ∀ (v : V) (σ : L2.St) (H : Hp) (Q Q' : L2.St → Hp → Prop), (∀ σ2 H2, Q σ2 H2 → Q' σ2 H2) → g v σ H Q → g v σ H Q')
    (hd : ∀ H, Same H1 H → H D = some (.lst ((List.range n).map F)) → Qd H) :
    ∃ W : Nat → Nat → Hp → Prop, (∃ m, W 0 m (upd H1 D (.lst []))) ∧ ∀ i m H, W i m H →
      ((Itr 0 n).stop i H ∧ Qd H) ∨ ((Itr 0 n).go i H ∧ ∃ Nx : Hp → Prop, (∀ H', Nx H' → ∃ m', m' < m ∧ W (i + 1) m' H') ∧ ∀ x H', (Itr 0 n).yld i H x H' → g x (wipe σ vs) H' fun σ2 H2 => wipe σ2 vs = wipe σ vs ∧ tYes σ2 H2 fun b H3 =>
        if b = true then te σ2 H3 fun y H4 => ∃ acc, H4 D = some (.lst acc) ∧ acc.length < sizeLine ∧ Nx (upd H4 D (.lst (acc ++ [y]))) else Nx H3) := by
  refine lc_range (fun i H => Same H1 H ∧ H D = some (.lst ((List.range i).map F))) ⟨same_new hD, upd_same⟩ ?_ (fun H p => hd H p.1 p.2)
  intro i H hi p
  refine mono _ _ _ _ _ ?_ (hs i H (fun y H4 => ∃ acc, H4 D = some (.lst acc) ∧ acc.length < sizeLine ∧ Same H1 (upd H4 D (.lst (acc ++ [y]))) ∧ upd H4 D (.lst (acc ++ [y])) D = some (.lst ((List.range (i + 1)).map F))) hi p.1 ?_)
  · intro σ2 H2 q
    refine ⟨q.1, ?_⟩
    unfold tYes
    exact iteT q.2
  · intro H' s'
    refine ⟨_, s' _ _ p.2, ?_, same_put (p.1.trans s') hD, ?_⟩
    · rw [List.length_map, List.length_range]
      omega
    · rw [upd_same, List.range_succ, List.map_append]
      rfl
theorem gName_mono {i : Nat} : ∀ (v : V) (σ : L2.St) (H : Hp) (Q Q' : L2.St → Hp → Prop), (∀ σ2 H2, Q σ2 H2 → Q' σ2 H2) → gName i v σ H Q → gName i v σ H Q' :=
  fun _ _ _ _ _ h q => h _ _ q
/-- .. over a list -/
theorem lcM {T : Type} {K : PySem.W.Frag} {a : Addr} {ys : List T} {G : T → V} {g : TG} {te : TE} {vs : List Nat} {σ : L2.St} {H1 : Hp} {D : Addr} {Qd : Hp → Prop} (F : T → V) (hD : H1 D = none) (hn : ys.length < sizeLine) (hx : SqL K H1 a (ys.map G))
    (hs : ∀ (y : T) (H : Hp) (Q : VK), y ∈ ys → Same H1 H → (∀ H', Same H H' → Q (F y) H') → g (G y) (wipe σ vs) H fun σ2 H2 => wipe σ2 vs = wipe σ vs ∧ te σ2 H2 Q)
    (mono : ∀ (v : V) (σ : L2.St) (H : Hp) (Q Q' : L2.St → Hp → Prop), (∀ σ2 H2, Q σ2 H2 → Q' σ2 H2) → g v σ H Q → g v σ H Q')
    (hd : ∀ H, Same H1 H → H D = some (.lst (ys.map F)) → Qd H) :
    ∃ W : Nat → Nat → Hp → Prop, (∃ m, W 0 m (upd H1 D (.lst []))) ∧ ∀ i m H, W i m H →
      ((Itl K a).stop i H ∧ Qd H) ∨ ((Itl K a).go i H ∧ ∃ Nx : Hp → Prop, (∀ H', Nx H' → ∃ m', m' < m ∧ W (i + 1) m' H') ∧ ∀ x H', (Itl K a).yld i H x H' → g x (wipe σ vs) H' fun σ2 H2 => wipe σ2 vs = wipe σ vs ∧ tYes σ2 H2 fun b H3 =>
        if b = true then te σ2 H3 fun y H4 => ∃ acc, H4 D = some (.lst acc) ∧ acc.length < sizeLine ∧ Nx (upd H4 D (.lst (acc ++ [y]))) else Nx H3) := by
  refine lc_list (xs := ys.map G) (fun i H => Same H1 H ∧ H D = some (.lst ((ys.take i).map F))) ⟨same_new hD, upd_same⟩ (fun i H _ p => p.1.seq hx) ?_ (fun H p => hd H p.1 (by have q := p.2; rw [List.length_map, List.take_length] at q; exact q))
  intro i x H hi p
  rw [List.getElem?_map] at hi
  cases ey : ys[i]? with
  | none =>
    rw [ey] at hi
    cases hi
  | some y =>
    rw [ey] at hi
    obtain rfl : G y = x := Option.some.inj hi
    have hlt : i < ys.length := (List.getElem?_eq_some_iff.mp ey).1
    refine mono _ _ _ _ _ ?_ (hs y H (fun y H4 => ∃ acc, H4 D = some (.lst acc) ∧ acc.length < sizeLine ∧ Same H1 (upd H4 D (.lst (acc ++ [y]))) ∧ upd H4 D (.lst (acc ++ [y])) D = some (.lst ((ys.take (i + 1)).map F))) (List.mem_of_getElem? ey) p.1 ?_)
    · intro σ2 H2 q
      refine ⟨q.1, ?_⟩
      unfold tYes
      exact iteT q.2
    · intro H' s'
      refine ⟨_, s' _ _ p.2, ?_, same_put (p.1.trans s') hD, ?_⟩
      · rw [List.length_map, List.length_take]
        omega
      · rw [upd_same, List.take_add_one, ey, List.map_append]
        rfl
/-- .. over a range, with a test -/
theorem lcRf {n : Nat} {g : TG} {tt : TT} {te : TE} {vs : List Nat} {σ : L2.St} {H1 : Hp} {D : Addr} {Qd : Hp → Prop} (B : Nat → Bool) (F : Nat → V) (hD : H1 D = none) (hn : n < sizeLine)
    (hs : ∀ (i : Nat) (H : Hp) (Q : VK) (R : Hp → Prop), i < n → Same H1 H → (B i = true → ∀ H', Same H H' → Q (F i) H') → (B i = false → ∀ H', Same H H' → R H') →
      g (.int ((0 : Int) + (i : Nat))) (wipe σ vs) H fun σ2 H2 => wipe σ2 vs = wipe σ vs ∧ tt σ2 H2 fun b H3 => if b = true then te σ2 H3 Q else R H3)
    (hd : ∀ H, Same H1 H → H D = some (.lst (((List.range n).filter B).map F)) → Qd H) :
    ∃ W : Nat → Nat → Hp → Prop, (∃ m, W 0 m (upd H1 D (.lst []))) ∧ ∀ i m H, W i m H →
      ((Itr 0 n).stop i H ∧ Qd H) ∨ ((Itr 0 n).go i H ∧ ∃ Nx : Hp → Prop, (∀ H', Nx H' → ∃ m', m' < m ∧ W (i + 1) m' H') ∧ ∀ x H', (Itr 0 n).yld i H x H' → g x (wipe σ vs) H' fun σ2 H2 => wipe σ2 vs = wipe σ vs ∧ tt σ2 H2 fun b H3 =>
        if b = true then te σ2 H3 fun y H4 => ∃ acc, H4 D = some (.lst acc) ∧ acc.length < sizeLine ∧ Nx (upd H4 D (.lst (acc ++ [y]))) else Nx H3) := by
  refine lc_range (fun i H => Same H1 H ∧ H D = some (.lst (((List.range i).filter B).map F))) ⟨same_new hD, upd_same⟩ ?_ (fun H p => hd H p.1 p.2)
  intro i H hi p
  have el : ((List.range (i + 1)).filter B) = ((List.range i).filter B) ++ if B i = true then [i] else [] := by
    rw [List.range_succ, List.filter_append]
    congr 1
    cases hb : B i with
    | true => simp [hb]
    | false => simp [hb]
  refine hs i H _ _ hi p.1 ?_ ?_
  · intro hb H' s'
    refine ⟨_, s' _ _ p.2, ?_, same_put (p.1.trans s') hD, ?_⟩
    · rw [List.length_map]
      have h1 := List.length_filter_le B (List.range i)
      rw [List.length_range] at h1
      omega
    · rw [upd_same, el, hb, if_pos rfl, List.map_append]
      rfl
  · intro hb H' s'
    refine ⟨p.1.trans s', ?_⟩
    rw [el, hb, if_neg (by decide), List.append_nil]
    exact s' _ _ p.2
end Tw

set_option maxRecDepth 100000
set_option maxHeartbeats 2000000
namespace Tw
open PySem PySem.Spec PyProof.Rows L2
open Krcj (Game Plan)
open Krcm (Desk)

/-- a def under its name -/
structure Has (P : Program) (w : World) (K : PySem.W.Frag) (mg : Str → Option Value) (base : Heap) (k : Nat) (x : Str) (sp : Sp) : Prop where
  ex : ∃ (f : Addr) (fd : FuncData) (ps : List Str), FnOk P w K mg base CX0 k f fd ps sp ∧ mg x = some (.ref f) ∧ PySem.W.keepIn K (.ref f) = true ∧ Binds K fd ps []
theorem pe_h {X : Cx} {k j : Nat} {x : Str} {sp : Sp} {p pos : Pos} {e : Expr} {es : List Expr} {t : TA} (c : Has X.prog X.w X.K X.mg X.base k x sp) (hr : Room j X.A) (hk : k ≤ j) (hg : Gl X x) (ha : PA X (e :: es) t)
    (hdb : (x == ("__debug__" : Str)) = false := by decide) (he : starEach (e :: es) X.env = (false, eval e X.env) :: starEach es X.env := by rfl) (hpl : (backTo pos (starEach es X.env)).any (·.1) = false := by rfl) :
    PE X (.Call (.Name x p) (e :: es) [] pos) (tCall sp [] E0 t) := by
  obtain ⟨f, fd, ps, F, hm, kp, b⟩ := c.ex
  exact pe_call F (hr.mono hk) hg hm kp b .nil pass0 ha hdb he hpl
/-! rules that name the written part: for use within a comprehension -/
theorem ixK {X : Cx} (K : PySem.W.Frag) (h : X.K = K := by rfl) : IxR X (rIxL K) := h ▸ ix_list
theorem pe_fldK {X : Cx} (K : PySem.W.Frag) {e : Expr} {f : Str} {pos : Pos} {te : TE} (he : PE X e te) (hb : attributeBase e f X.env (eval e X.env) = eval e X.env) (h : X.K = K := by rfl) :
    PE X (.Attribute e f pos) (tFld K te f) := h ▸ pe_fld he hb
/-- a def of the module as it stands -/
structure Dfn (K : PySem.W.Frag) (mg : Str → Option Value) (x : Str) (st : Stmt) : Prop where
  ex : ∃ (f : Addr) (fd : FuncData), Fun K x x st f fd ∧ mg x = some (.ref f)
theorem Dfn.has {P : Program} {w : World} {K : PySem.W.Frag} {mg : Str → Option Value} {base : Heap} {x : Str} {st : Stmt} {N ps : List Str} {k : Nat} {sp : Sp} (D : Dfn K mg x st) (S : FnScope N ps (defScope st)) (len : ∀ vs H Q E, sp vs H Q E → vs.length = ps.length)
    (hb : ∀ (kV doc pm : Value) (an : Option Addr) (cdv ct : Value) (us : List Value), us.length = ps.length → bindArgs (PySem.W.fnOf x x (defArgs st) (defBody st) (defScope st) .none kV doc pm an cdv ct) ⟨us, []⟩ = pure (ps.zip us))
    (hbody : ∀ (f : Addr) (cdv : Value) (A : Around) (outer : List Env) (s : Shared) (H : Hp) (vs : List V) (Q : VK) (E : XK), Room k (A.deeper (envOfC x (defScope st) s.heap.objs.size f cdv)) → sp vs H Q E →
      ∃ t, PSs (cxOf CX0 P w K mg base N x (defScope st) f cdv A outer s H E).nox (defBody st) t ∧ t { nx := fun _ H' => Q .non H', rt := Q } (start N vs) H) : Has P w K mg base (k + 1) x sp := by
  obtain ⟨f, fd, F, hm⟩ := D.ex
  exact ⟨f, fd, ps, F.ok S len (hbody f), hm, F.kp, F.binds hb⟩

structure Txt (K : PySem.W.Frag) (mg : Str → Option Value) (C : Addr) : Prop where
  cl : Cls K C
  nB : NoAttr K C "begun"
  nN : NoAttr K C "ways"
  nM : NoAttr K C "signs"
  nK : NoAttr K C "acts"
  nW : NoAttr K C "weights"
  nP : NoAttr K C "pays"
  nA : NoAttr K C "wants"
  nG : NoAttr K C "given"
  nD : NoAttr K C "done"
  mrange : mg "range" = none
  msum : mg "sum" = none
  mmax : mg "max" = none
  mall : mg "all" = none
  mlen : mg "len" = none
  mset : mg "set" = none
  mlist : mg "list" = none
  mzip : mg "zip" = none
  many : mg "any" = none

/-! the values of the object, by name -/
section
variable {b : Bool} {n m k : Int} {aw ap an ag ad : Addr}
theorem tf_begun : (tf b n m k aw ap an ag ad).lookup ("begun" : Str) = some (.bl b) := rfl
theorem tf_ways : (tf b n m k aw ap an ag ad).lookup ("ways" : Str) = some (.int n) := rfl
theorem tf_signs : (tf b n m k aw ap an ag ad).lookup ("signs" : Str) = some (.int m) := rfl
theorem tf_acts : (tf b n m k aw ap an ag ad).lookup ("acts" : Str) = some (.int k) := rfl
theorem tf_weights : (tf b n m k aw ap an ag ad).lookup ("weights" : Str) = some (.ref aw) := rfl
theorem tf_pays : (tf b n m k aw ap an ag ad).lookup ("pays" : Str) = some (.ref ap) := rfl
theorem tf_wants : (tf b n m k aw ap an ag ad).lookup ("wants" : Str) = some (.ref an) := rfl
theorem tf_given : (tf b n m k aw ap an ag ad).lookup ("given" : Str) = some (.ref ag) := rfl
theorem tf_done : (tf b n m k aw ap an ag ad).lookup ("done" : Str) = some (.ref ad) := rfl
end

/-- what an act brings for a way by a table, times its weight -/
def wv (d : Desk) (l : List Nat) (s a : Nat) : Nat := d.g.weight s * l.getD (s * d.g.k + a) 0
theorem worth_wv (d : Desk) (l g dn : List Nat) : (Krcm.other d.g l).worth ⟨g, dn⟩ = (List.range d.g.n).foldl (fun t s => t + wv d l s (dn.getD (g.getD s 0) 0)) 0 := rfl
theorem foldl_sum (f : Nat → Nat) : ∀ (l : List Nat) (t : Nat), l.foldl (fun t s => t + f s) t = t + (l.map f).sum
  | [], t => rfl
  | x :: l, t => by
    rw [List.foldl_cons, foldl_sum f l, List.map_cons, List.sum_cons]
    omega
theorem sum_cast : ∀ l : List Nat, (l.map fun (x : Nat) => (x : Int)).sum = ((l.sum : Nat) : Int)
  | [] => rfl
  | x :: l => by
    rw [List.map_cons, List.sum_cons, sum_cast l, List.sum_cons]
    omega

section
variable {P : Program} {w : World} {K : PySem.W.Frag} {mg : Str → Option Value} {base : Heap} {C : Addr}

/-! weighted(table, numbers, way, act) -/
abbrev sWeighted : Stmt := top 1
theorem scWeighted : FnScope ["table", "numbers", "way", "act"] ["table", "numbers", "way", "act"] (defScope sWeighted) := ⟨rfl, rfl, rfl, by decide +kernel, rfl, by decide +kernel, by decide +kernel⟩
def spWeighted (C : Addr) : Sp := fun vs H Q _ => ∃ (A : Ads) (d : Desk) (al : Addr) (l : List Nat) (s a : Nat),
  vs = [.ref A.a, .ref al, .int s, .int a] ∧ Tab C H A d ∧ Ok d ∧ H al = some (.lst (vi l)) ∧ RowOk l (d.g.n * d.g.k) 10 ∧ s < d.g.n ∧ a < d.g.k ∧ Q (.int (wv d l s a : Nat)) H
theorem ok_weighted (T : Txt K mg C) (D : Dfn K mg "weighted" sWeighted) : Has P w K mg base 1 "weighted" (spWeighted C) := by
  refine D.has scWeighted ?_ (fun _ _ _ _ _ _ us hl => match us, hl with | [_, _, _, _], _ => rfl) ?_
  · rintro vs H Q E ⟨A, d, al, l, s, a, rfl, _⟩
    rfl
  · rintro f cdv A0 outer s0 H vs Q E hr ⟨A, d, al, l, s, a, rfl, t, o, hl, rl, hs, ha, q⟩
    refine ⟨_, pss_one (ps_ret (pe_op op_mul (pe_ix ix_list (pe_fld (pv 0) rfl) (pv 2) (fun _ _ => rfl)) (pe_ix ix_list (pv 1) (pe_op op_add (pe_op op_mul (pv 2) (pe_fld (pv 0) rfl)) (pv 3)) (fun _ _ => rfl)))), ?_⟩
    have hw : (vi d.g.weights)[s]? = some (.int (d.g.weight s : Nat)) := vi_at (by rw [o.w]; exact hs)
    refine ⟨_, rfl, A.a, C, A.x, _, _, rfl, t.ins, T.cl, T.nW, tf_weights, _, rfl, A.w, _, _, _, rfl, rfl, SqL.of t.w, atI_nat hw, ?_⟩
    have h9 := o.wlt hs
    have hn := o.n3
    refine ⟨_, rfl, _, rfl, _, rfl, A.a, C, A.x, _, _, rfl, t.ins, T.cl, T.nK, tf_acts, _, _, rfl, rfl, .inl ⟨by omega, by omega⟩, _, rfl, _, _, rfl, rfl, al, _, _, _, rfl, rfl, SqL.of hl,
      at_of (j := s * d.g.k + a) (by push_cast; rfl) (rl.at (place_lt hs ha)), _, _, rfl, rfl, .inl ⟨by omega, by omega⟩, ?_⟩
    have e : ((d.g.weight s : Nat) : Int) * ((l.getD (s * d.g.k + a) 0 : Nat) : Int) = ((wv d l s a : Nat) : Int) := by
      unfold wv
      push_cast
      rfl
    rw [← e] at q
    exact q

/-! worth_by(table, numbers, given, done) -/
abbrev sWorthBy : Stmt := top 2
theorem scWorthBy : FnScope ["table", "numbers", "given", "done", "way"] ["table", "numbers", "given", "done"] (defScope sWorthBy) := ⟨rfl, rfl, rfl, by decide +kernel, rfl, by decide +kernel, by decide +kernel⟩
def spWorthBy (C : Addr) : Sp := fun vs H Q _ => ∃ (A : Ads) (d : Desk) (al : Addr) (l : List Nat) (ag : Addr) (g : List Nat) (ad : Addr) (dn : List Nat),
  vs = [.ref A.a, .ref al, .ref ag, .ref ad] ∧ Tab C H A d ∧ Ok d ∧ H al = some (.lst (vi l)) ∧ RowOk l (d.g.n * d.g.k) 10 ∧ H ag = some (.lst (vi g)) ∧ RowOk g d.g.n d.g.m ∧
  H ad = some (.lst (vi dn)) ∧ RowOk dn d.g.m d.g.k ∧ ∀ H', Same H H' → Q (.int ((Krcm.other d.g l).worth ⟨g, dn⟩ : Nat)) H'
theorem ok_worthBy (T : Txt K mg C) (D : Dfn K mg "worth_by" sWorthBy) (Gw : Has P w K mg base 1 "weighted" (spWeighted C)) : Has P w K mg base 2 "worth_by" (spWorthBy C) := by
  refine D.has scWorthBy ?_ (fun _ _ _ _ _ _ us hl => match us, hl with | [_, _, _, _], _ => rfl) ?_
  · rintro vs H Q E ⟨A, d, al, l, ag, g, ad, dn, rfl, _⟩
    rfl
  · rintro f cdv A0 outer s0 H vs Q E hr ⟨A, d, al, l, ag, g, ad, dn, rfl, t, o, hl, rl, hg, rg, hd, rd, q⟩
    refine ⟨_, pss_one (ps_ret (pe_callB (cr_sum rfl) (by rfl) T.msum (by decide +kernel) (pa_cons
      (pe_lc (own := [("way", 4)]) (g := gName 4) (tt := tYes) rfl scWorthBy.nd (pi_range1 (by rfl) T.mrange (pa_cons (pe_fld (pv 0) rfl) pa_nil)) (blkOk_by (own := [("way", 4)]) (N := ["table", "numbers", "given", "done", "way"]) (sc := defScope sWorthBy) (by decide +kernel))
        (fun _ _ _ _ _ => pg_name (i := 4) scWorthBy.nd rfl (Or.inl rfl)) (fun _ _ _ _ _ => pts_nil)
        (fun _ _ _ _ _ => pe_h Gw hr (by decide) (by rfl) (pa_cons (pv 0) (pa_cons (pv 1) (pa_cons (pv 4) (pa_cons (pe_ix (ixK K) (pv 3) (pe_ix (ixK K) (pv 2) (pv 4) (fun _ _ => rfl)) (fun _ _ => rfl)) pa_nil)))))) pa_nil))), ?_⟩
    have hn := o.n3
    refine ⟨_, rfl, A.a, C, A.x, _, _, rfl, t.ins, T.cl, T.nN, tf_ways, _, rfl, by omega, by omega, fun L hL => ?_⟩
    have en : ((d.g.n : Int) - 0).toNat = d.g.n := by omega
    refine lcR (fun i => V.int (wv d l i (dn.getD (g.getD i 0) 0) : Nat)) hL (by show d.g.n < sizeLine; exact Nat.lt_of_le_of_lt hn (by decide)) ?_ gName_mono ?_
    · intro i H1 Q1 hi s1 q1
      have hm := rg.get hi
      refine ⟨rfl, _, rfl, _, rfl, _, rfl, _, rfl, _, rfl, _, rfl, ag, _, _, _, rfl, rfl, SqL.of (s1 _ _ hg), at_of (j := i) (by omega) (rg.at hi), ad, _, _, _, rfl, rfl, SqL.of (s1 _ _ hd), atI_nat (rd.at hm), ?_⟩
      refine ⟨A, d, al, l, i, _, ?_, t.same s1, o, s1 _ _ hl, rl, hi, rd.get hm, q1 _ (Same.refl _)⟩
      simp
    · intro H1 s1 hL1
      refine ⟨L, (List.range d.g.n).map (fun i => ((wv d l i (dn.getD (g.getD i 0) 0) : Nat) : Int)), rfl, ?_, ?_⟩
      · rw [List.map_map]
        exact SqL.of hL1
      · have e : ((List.range d.g.n).map (fun i => ((wv d l i (dn.getD (g.getD i 0) 0) : Nat) : Int))).sum = (((Krcm.other d.g l).worth ⟨g, dn⟩ : Nat) : Int) := by
          rw [worth_wv, foldl_sum, Nat.zero_add, ← sum_cast, List.map_map]
          rfl
        rw [e]
        exact q _ s1
end
end Tw

set_option maxRecDepth 100000
set_option maxHeartbeats 2000000
namespace Tw
open PySem PySem.Spec PyProof.Rows L2
open Krcj (Game Plan)
open Krcm (Desk)

def mx (l : List Nat) : Nat := l.foldl max 0
theorem foldl_max : ∀ (l : List Nat) (b : Nat), l.foldl max b = max b (mx l)
  | [], b => by simp [mx]
  | x :: l, b => by
    have h1 := foldl_max l (max b x)
    have h2 := foldl_max l (max 0 x)
    show l.foldl max (max b x) = max b (l.foldl max (max 0 x))
    rw [h1, h2]
    omega
theorem mx_cons (x : Nat) (l : List Nat) : mx (x :: l) = max x (mx l) := by
  show l.foldl max (max 0 x) = _
  rw [foldl_max]
  omega
theorem mx_ge : ∀ {l : List Nat} {x : Nat}, x ∈ l → x ≤ mx l
  | y :: l, x, h => by
    rw [mx_cons]
    rcases List.mem_cons.mp h with rfl | h
    · omega
    · have := mx_ge h
      omega
theorem mx_mem : ∀ {l : List Nat}, l ≠ [] → mx l ∈ l
  | [], h => absurd rfl h
  | [x], _ => by simp [mx]
  | x :: y :: l, _ => by
    have h := mx_mem (l := y :: l) (by simp)
    rw [mx_cons]
    by_cases c : mx (y :: l) ≤ x
    · rw [show max x (mx (y :: l)) = x by omega]
      exact List.mem_cons_self
    · rw [show max x (mx (y :: l)) = mx (y :: l) by omega]
      exact List.mem_cons_of_mem _ h
theorem mx_int {l : List Nat} {z : Int} (hm : z ∈ l.map fun (x : Nat) => (x : Int)) (hle : ∀ y ∈ l.map fun (x : Nat) => (x : Int), y ≤ z) : z = ((mx l : Nat) : Int) := by
  obtain ⟨x, hx, rfl⟩ := List.mem_map.mp hm
  have h1 := mx_ge hx
  have h2 := hle _ (List.mem_map.mpr ⟨mx l, mx_mem (by intro e; rw [e] at hx; cases hx), rfl⟩)
  omega
theorem vi_map {T : Type} (f : T → Nat) (l : List T) : vi (l.map f) = l.map fun x => V.int (f x : Nat) := by
  unfold vi
  rw [List.map_map]
  rfl

/-- the most to who gives signs, whatever the signs -/
def mostG (d : Desk) (dn : List Nat) : Nat := (List.range d.g.n).foldl (fun t s => t + mx (dn.map (wv d d.wants s))) 0
/-- what an act for a sign brings to who acts -/
def wact (d : Desk) (g : List Nat) (j a : Nat) : Nat := (List.range d.g.n).foldl (fun v s => if g.getD s 0 = j then v + wv d d.g.pays s a else v) 0
def mostA (d : Desk) (g : List Nat) : Nat := (List.range d.g.m).foldl (fun t j => t + mx ((List.range d.g.k).map (wact d g j))) 0
theorem foldl_range_succ (f : Nat → Nat → Nat) (i t : Nat) : (List.range (i + 1)).foldl f t = f ((List.range i).foldl f t) i := by
  rw [List.range_succ, List.foldl_append]
  rfl
theorem foldl_if (p : Nat → Bool) (f : Nat → Nat) : ∀ (l : List Nat) (t : Nat), l.foldl (fun v s => if p s = true then v + f s else v) t = t + ((l.filter p).map f).sum
  | [], t => rfl
  | x :: l, t => by
    rw [List.foldl_cons, foldl_if p f l]
    cases h : p x with
    | true => simp [h]; omega
    | false => simp [h]

section
variable {P : Program} {w : World} {K : PySem.W.Frag} {mg : Str → Option Value} {base : Heap} {C : Addr}

/-! most_to_giver(table, done) -/
abbrev sMostG : Stmt := top 3
theorem scMostG : FnScope ["table", "done", "total", "way", "act"] ["table", "done"] (defScope sMostG) := ⟨rfl, rfl, rfl, by decide +kernel, rfl, by decide +kernel, by decide +kernel⟩
def spMostG (C : Addr) : Sp := fun vs H Q _ => ∃ (A : Ads) (d : Desk) (ad : Addr) (dn : List Nat),
  vs = [.ref A.a, .ref ad] ∧ Tab C H A d ∧ Ok d ∧ H ad = some (.lst (vi dn)) ∧ RowOk dn d.g.m d.g.k ∧ ∀ H', Same H H' → Q (.int (mostG d dn : Nat)) H'
theorem ok_mostG (T : Txt K mg C) (D : Dfn K mg "most_to_giver" sMostG) (Gw : Has P w K mg base 1 "weighted" (spWeighted C)) : Has P w K mg base 2 "most_to_giver" (spMostG C) := by
  refine D.has scMostG ?_ (fun _ _ _ _ _ _ us hl => match us, hl with | [_, _], _ => rfl) ?_
  · rintro vs H Q E ⟨A, d, ad, dn, rfl, _⟩
    rfl
  · rintro f cdv A0 outer s0 H vs Q E hr ⟨A, d, ad, dn, rfl, t, o, hd, rd, q⟩
    refine ⟨_, pss_cons (ps_set (i := 2) scMostG.nd rfl (Or.inl rfl) pe_int)
      (pss_cons (ps_for PassesOwn.never rfl (pi_range1 (by rfl) T.mrange (pa_cons (pe_fld (pv 0) rfl) pa_nil)) (pg_name (i := 3) scMostG.nd rfl (Or.inr rfl))
        (pss_one (ps_set (i := 2) scMostG.nd rfl (Or.inl rfl) (pe_op op_add (pv 2) (pe_callB (cr_max rfl) (by rfl) T.mmax (by decide +kernel) (pa_cons
          (pe_lc (own := [("act", 4)]) (g := gName 4) (tt := tYes) rfl scMostG.nd (pi_list (pv 1)) (blkOk_by (own := [("act", 4)]) (N := ["table", "done", "total", "way", "act"]) (sc := defScope sMostG) (by decide +kernel))
            (fun _ _ _ _ _ => pg_name (i := 4) scMostG.nd rfl (Or.inl rfl)) (fun _ _ _ _ _ => pts_nil)
            (fun _ _ _ _ _ => pe_h Gw hr (by decide) (by rfl) (pa_cons (pv 0) (pa_cons (pe_fldK K (pv 0) rfl) (pa_cons (pv 3) (pa_cons (pv 4) pa_nil)))))) pa_nil))))))
      (pss_one (ps_ret (pv 2)))), ?_⟩
    have hn := o.n3
    have hm := o.m3
    refine ⟨_, rfl, A.a, C, A.x, _, _, rfl, t.ins, T.cl, T.nN, tf_ways, _, rfl, by omega, by omega, ?_⟩
    refine for_range (lo := 0) (n := d.g.n) (fun i σ H' => ∃ v : Option V, σ = [some (.ref A.a), some (.ref ad), some (.int ((List.range i).foldl (fun t s => t + mx (dn.map (wv d d.wants s))) 0 : Nat)), v, none] ∧ Same H H') ⟨none, rfl, Same.refl _⟩ ?_ ?_
    · rintro i σ H' hi ⟨v, rfl, s1⟩
      refine ⟨_, rfl, _, rfl, ad, rfl, ⟨_, SqL.of (s1 _ _ hd)⟩, fun L hL => ?_⟩
      refine lcM (ys := dn) (G := fun (x : Nat) => V.int (x : Int)) (fun a => V.int (wv d d.wants i a : Nat)) hL (by rw [rd.1]; exact Nat.lt_of_le_of_lt hm (by decide)) (SqL.of (s1 _ _ hd)) ?_ gName_mono ?_
      · intro a H1 Q1 ha s2 q1
        have t1 := t.same (s1.trans s2)
        refine ⟨rfl, _, rfl, _, rfl, A.a, C, A.x, _, _, rfl, t1.ins, T.cl, T.nA, tf_wants, _, rfl, _, rfl, ?_⟩
        refine ⟨A, d, A.n, d.wants, i, a, ?_, t1, o, t1.n, o.n, hi, rd.2 a ha, q1 _ (Same.refl _)⟩
        simp
      · intro H1 s2 hL1
        refine ⟨L, (dn.map (wv d d.wants i)).map (fun (x : Nat) => (x : Int)), rfl, ?_, ?_, ?_⟩
        · rw [List.map_map, List.map_map]
          exact SqL.of hL1
        · rw [List.length_map, List.length_map, rd.1]
          exact o.m1
        · intro z hz hle
          have e := mx_int hz hle
          subst e
          refine ⟨_, _, rfl, rfl, some (.int ((0 : Int) + (i : Nat))), ?_, s1.trans s2⟩
          rw [foldl_range_succ, Int.natCast_add]
          rfl
    · rintro σ H' ⟨v, rfl, s1⟩
      exact ⟨_, rfl, q _ s1⟩
end
end Tw

set_option maxRecDepth 100000
set_option maxHeartbeats 2000000
namespace Tw
open PySem PySem.Spec PyProof.Rows L2
open Krcj (Game Plan)
open Krcm (Desk)
section
variable {P : Program} {w : World} {K : PySem.W.Frag} {mg : Str → Option Value} {base : Heap} {C : Addr}

/-! worth_of_act(table, given, sign, act) -/
abbrev sWorthA : Stmt := top 4
theorem scWorthA : FnScope ["table", "given", "sign", "act", "ways", "way"] ["table", "given", "sign", "act"] (defScope sWorthA) := ⟨rfl, rfl, rfl, by decide +kernel, rfl, by decide +kernel, by decide +kernel⟩
def spWorthA (C : Addr) : Sp := fun vs H Q _ => ∃ (A : Ads) (d : Desk) (ag : Addr) (g : List Nat) (j a : Nat),
  vs = [.ref A.a, .ref ag, .int j, .int a] ∧ Tab C H A d ∧ Ok d ∧ H ag = some (.lst (vi g)) ∧ RowOk g d.g.n d.g.m ∧ a < d.g.k ∧ ∀ H', Same H H' → Q (.int (wact d g j a : Nat)) H'
theorem ok_worthA (T : Txt K mg C) (D : Dfn K mg "worth_of_act" sWorthA) (Gw : Has P w K mg base 1 "weighted" (spWeighted C)) : Has P w K mg base 2 "worth_of_act" (spWorthA C) := by
  refine D.has scWorthA ?_ (fun _ _ _ _ _ _ us hl => match us, hl with | [_, _, _, _], _ => rfl) ?_
  · rintro vs H Q E ⟨A, d, ag, g, j, a, rfl, _⟩
    rfl
  · rintro f cdv A0 outer s0 H vs Q E hr ⟨A, d, ag, g, j, a, rfl, t, o, hg, rg, ha, q⟩
    refine ⟨_, pss_cons (ps_setLc (i := 4) (own := [("way", 5)]) (g := gName 5) rfl scWorthA.nd rfl rfl (sw_true rfl rfl rfl (by decide +kernel)) (pi_range1 (by rfl) T.mrange (pa_cons (pe_fld (pv 0) rfl) pa_nil))
        (blkOk_by (own := [("way", 5)]) (N := ["table", "given", "sign", "act", "ways", "way"]) (sc := defScope sWorthA) (by decide +kernel))
        (fun _ _ _ _ _ => pg_name (i := 5) scWorthA.nd rfl (Or.inl rfl)) (fun _ _ _ _ _ => pts_one (pt_cmpR op_eq (pe_ix (ixK K) (pv 1) (pv 5) (fun _ _ => rfl)) (pv 2) (nomark _)))
        (fun _ _ _ _ _ => pv 5))
      (pss_one (ps_ret (pe_callB (cr_sum rfl) (by rfl) T.msum (by decide +kernel) (pa_cons
        (pe_lc (own := [("way", 5)]) (g := gName 5) (tt := tYes) rfl scWorthA.nd (pi_list (pv 4)) (blkOk_by (own := [("way", 5)]) (N := ["table", "given", "sign", "act", "ways", "way"]) (sc := defScope sWorthA) (by decide +kernel))
          (fun _ _ _ _ _ => pg_name (i := 5) scWorthA.nd rfl (Or.inl rfl)) (fun _ _ _ _ _ => pts_nil)
          (fun _ _ _ _ _ => pe_h Gw hr (by decide) (by rfl) (pa_cons (pv 0) (pa_cons (pe_fldK K (pv 0) rfl) (pa_cons (pv 5) (pa_cons (pv 3) pa_nil)))))) pa_nil)))), ?_⟩
    have hn := o.n3
    have hsz : d.g.n < sizeLine := Nat.lt_of_le_of_lt hn (by decide)
    refine ⟨_, rfl, A.a, C, A.x, _, _, rfl, t.ins, T.cl, T.nN, tf_ways, _, rfl, by omega, by omega, fun L hL => ?_⟩
    refine lcRf (n := d.g.n) (fun i => decide (g.getD i 0 = j)) (fun i => V.int (i : Nat)) hL hsz ?_ ?_
    · intro i H1 Q1 R1 hi s1 q1 r1
      refine ⟨rfl, _, rfl, _, rfl, ag, _, _, _, rfl, rfl, SqL.of (s1 _ _ hg), at_of (j := i) (by omega) (rg.at hi), _, rfl, rfl, _, rfl, ?_⟩
      by_cases c : g.getD i 0 = j
      · rw [decide_eq_true (by rw [c])]
        refine iteT ⟨_, rfl, ?_⟩
        have := q1 (decide_eq_true c) _ (Same.refl _)
        rw [show ((0 : Int) + (i : Nat)) = ((i : Nat) : Int) by omega]
        exact this
      · rw [decide_eq_false (by intro e; injection e with e; omega)]
        exact iteF (r1 (decide_eq_false c) _ (Same.refl _))
    · intro H1 s1 hL1
      refine ⟨_, rfl, L, rfl, ⟨_, SqL.of hL1⟩, fun L2 hL2 => ?_⟩
      refine lcM (ys := (List.range d.g.n).filter fun i => decide (g.getD i 0 = j)) (G := fun (x : Nat) => V.int (x : Int)) (fun i => V.int (wv d d.g.pays i a : Nat)) hL2
        (by have h1 := List.length_filter_le (fun i => decide (g.getD i 0 = j)) (List.range d.g.n); rw [List.length_range] at h1; omega) (SqL.of hL1) ?_ gName_mono ?_
      · intro i H2 Q2 hi s2 q2
        have t1 := t.same (s1.trans s2)
        have hin : i < d.g.n := List.mem_range.mp (List.mem_filter.mp hi).1
        refine ⟨rfl, _, rfl, _, rfl, A.a, C, A.x, _, _, rfl, t1.ins, T.cl, T.nP, tf_pays, _, rfl, _, rfl, ?_⟩
        exact ⟨A, d, A.p, d.g.pays, i, a, rfl, t1, o, t1.p, o.p, hin, ha, q2 _ (Same.refl _)⟩
      · intro H2 s2 hL3
        refine ⟨L2, (((List.range d.g.n).filter fun i => decide (g.getD i 0 = j)).map (fun i => wv d d.g.pays i a)).map (fun (x : Nat) => (x : Int)), rfl, ?_, ?_⟩
        · rw [List.map_map, List.map_map]
          exact SqL.of hL3
        · have e : wact d g j a = (((List.range d.g.n).filter fun i => decide (g.getD i 0 = j)).map (fun i => wv d d.g.pays i a)).sum := by
            have h := foldl_if (fun i => decide (g.getD i 0 = j)) (fun i => wv d d.g.pays i a) (List.range d.g.n) 0
            rw [Nat.zero_add] at h
            rw [← h]
            unfold wact
            congr 1
            funext v s
            by_cases c : g.getD s 0 = j
            · rw [if_pos c, if_pos (decide_eq_true c)]
            · rw [if_neg c, if_neg (by rw [decide_eq_false c]; decide)]
          rw [sum_cast, ← e]
          exact q _ (s1.trans s2)

/-! most_to_actor(table, given) -/
abbrev sMostA : Stmt := top 5
theorem scMostA : FnScope ["table", "given", "total", "sign", "act"] ["table", "given"] (defScope sMostA) := ⟨rfl, rfl, rfl, by decide +kernel, rfl, by decide +kernel, by decide +kernel⟩
def spMostA (C : Addr) : Sp := fun vs H Q _ => ∃ (A : Ads) (d : Desk) (ag : Addr) (g : List Nat),
  vs = [.ref A.a, .ref ag] ∧ Tab C H A d ∧ Ok d ∧ H ag = some (.lst (vi g)) ∧ RowOk g d.g.n d.g.m ∧ ∀ H', Same H H' → Q (.int (mostA d g : Nat)) H'
theorem ok_mostA (T : Txt K mg C) (D : Dfn K mg "most_to_actor" sMostA) (Gw : Has P w K mg base 2 "worth_of_act" (spWorthA C)) : Has P w K mg base 3 "most_to_actor" (spMostA C) := by
  refine D.has scMostA ?_ (fun _ _ _ _ _ _ us hl => match us, hl with | [_, _], _ => rfl) ?_
  · rintro vs H Q E ⟨A, d, ad, dn, rfl, _⟩
    rfl
  · rintro f cdv A0 outer s0 H vs Q E hr ⟨A, d, ag, g, rfl, t, o, hg, rg, q⟩
    refine ⟨_, pss_cons (ps_set (i := 2) scMostA.nd rfl (Or.inl rfl) pe_int)
      (pss_cons (ps_for PassesOwn.never rfl (pi_range1 (by rfl) T.mrange (pa_cons (pe_fld (pv 0) rfl) pa_nil)) (pg_name (i := 3) scMostA.nd rfl (Or.inr rfl))
        (pss_one (ps_set (i := 2) scMostA.nd rfl (Or.inl rfl) (pe_op op_add (pv 2) (pe_callB (cr_max rfl) (by rfl) T.mmax (by decide +kernel) (pa_cons
          (pe_lc (own := [("act", 4)]) (g := gName 4) (tt := tYes) rfl scMostA.nd (pi_range1 (by rfl) T.mrange (pa_cons (pe_fld (pv 0) rfl) pa_nil)) (blkOk_by (own := [("act", 4)]) (N := ["table", "given", "total", "sign", "act"]) (sc := defScope sMostA) (by decide +kernel))
            (fun _ _ _ _ _ => pg_name (i := 4) scMostA.nd rfl (Or.inl rfl)) (fun _ _ _ _ _ => pts_nil)
            (fun _ _ _ _ _ => pe_h Gw hr (by decide) (by rfl) (pa_cons (pv 0) (pa_cons (pv 1) (pa_cons (pv 3) (pa_cons (pv 4) pa_nil)))))) pa_nil))))))
      (pss_one (ps_ret (pv 2)))), ?_⟩
    have hm := o.m3
    have hk := o.k3
    refine ⟨_, rfl, A.a, C, A.x, _, _, rfl, t.ins, T.cl, T.nM, tf_signs, _, rfl, by omega, by omega, ?_⟩
    refine for_range (lo := 0) (n := d.g.m) (fun i σ H' => ∃ v : Option V, σ = [some (.ref A.a), some (.ref ag), some (.int ((List.range i).foldl (fun t j => t + mx ((List.range d.g.k).map (wact d g j))) 0 : Nat)), v, none] ∧ Same H H') ⟨none, rfl, Same.refl _⟩ ?_ ?_
    · rintro i σ H' hi ⟨v, rfl, s1⟩
      refine ⟨_, rfl, _, rfl, A.a, C, A.x, _, _, rfl, s1 _ _ t.ins, T.cl, T.nK, tf_acts, _, rfl, by omega, by omega, fun L hL => ?_⟩
      refine lcR (n := d.g.k) (fun a => V.int (wact d g i a : Nat)) hL (Nat.lt_of_le_of_lt hk (by decide)) ?_ gName_mono ?_
      · intro a H1 Q1 ha s2 q1
        have t1 := t.same (s1.trans s2)
        refine ⟨rfl, _, rfl, _, rfl, _, rfl, _, rfl, ?_⟩
        refine ⟨A, d, ag, g, i, a, ?_, t1, o, s2 _ _ (s1 _ _ hg), rg, ha, fun H3 s3 => q1 _ s3⟩
        simp
      · intro H1 s2 hL1
        refine ⟨L, ((List.range d.g.k).map (wact d g i)).map (fun (x : Nat) => (x : Int)), rfl, ?_, ?_, ?_⟩
        · rw [List.map_map, List.map_map]
          exact SqL.of hL1
        · rw [List.length_map, List.length_map, List.length_range]
          exact o.k1
        · intro z hz hle
          have e := mx_int hz hle
          subst e
          refine ⟨_, _, rfl, rfl, some (.int ((0 : Int) + (i : Nat))), ?_, s1.trans s2⟩
          rw [foldl_range_succ, Int.natCast_add]
          rfl
    · rintro σ H' ⟨v, rfl, s1⟩
      exact ⟨_, rfl, q _ s1⟩

/-! rests_for_giver, rests_for_actor, rests_for_both (table, given, done) -/
def restG (d : Desk) (g dn : List Nat) : Bool := decide (d.giver.worth ⟨g, dn⟩ = mostG d dn)
def restA (d : Desk) (g dn : List Nat) : Bool := decide (d.g.worth ⟨g, dn⟩ = mostA d g)
abbrev sRestG : Stmt := top 6
abbrev sRestA : Stmt := top 7
abbrev sRestB : Stmt := top 8
theorem scRestG : FnScope ["table", "given", "done"] ["table", "given", "done"] (defScope sRestG) := ⟨rfl, rfl, rfl, by decide +kernel, rfl, by decide +kernel, by decide +kernel⟩
theorem scRestA : FnScope ["table", "given", "done"] ["table", "given", "done"] (defScope sRestA) := ⟨rfl, rfl, rfl, by decide +kernel, rfl, by decide +kernel, by decide +kernel⟩
theorem scRestB : FnScope ["table", "given", "done"] ["table", "given", "done"] (defScope sRestB) := ⟨rfl, rfl, rfl, by decide +kernel, rfl, by decide +kernel, by decide +kernel⟩
/-- of a table and a plan: what is answered -/
def spPlan (C : Addr) (r : Desk → List Nat → List Nat → V) : Sp := fun vs H Q _ => ∃ (A : Ads) (d : Desk) (ag : Addr) (g : List Nat) (ad : Addr) (dn : List Nat),
  vs = [.ref A.a, .ref ag, .ref ad] ∧ Tab C H A d ∧ Ok d ∧ H ag = some (.lst (vi g)) ∧ RowOk g d.g.n d.g.m ∧ H ad = some (.lst (vi dn)) ∧ RowOk dn d.g.m d.g.k ∧ ∀ H', Same H H' → Q (r d g dn) H'
theorem eq_natV (a b : Nat) : decide (V.int (a : Int) = V.int (b : Int)) = decide (a = b) := by
  by_cases c : a = b
  · subst c
    rw [decide_eq_true rfl, decide_eq_true rfl]
  · rw [decide_eq_false c, decide_eq_false (by intro e; injection e with e; omega)]
theorem ok_restG (T : Txt K mg C) (D : Dfn K mg "rests_for_giver" sRestG) (Gw : Has P w K mg base 2 "worth_by" (spWorthBy C)) (Gm : Has P w K mg base 2 "most_to_giver" (spMostG C)) :
    Has P w K mg base 3 "rests_for_giver" (spPlan C fun d g dn => .bl (restG d g dn)) := by
  refine D.has scRestG ?_ (fun _ _ _ _ _ _ us hl => match us, hl with | [_, _, _], _ => rfl) ?_
  · rintro vs H Q E ⟨A, d, ag, g, ad, dn, rfl, _⟩
    rfl
  · rintro f cdv A0 outer s0 H vs Q E hr ⟨A, d, ag, g, ad, dn, rfl, t, o, hg, rg, hd, rd, q⟩
    refine ⟨_, pss_one (ps_ret (pe_cmpR op_eq (pe_h Gw hr (by decide) (by rfl) (pa_cons (pv 0) (pa_cons (pe_fld (pv 0) rfl) (pa_cons (pv 1) (pa_cons (pv 2) pa_nil))))) (pe_h Gm hr (by decide) (by rfl) (pa_cons (pv 0) (pa_cons (pv 2) pa_nil))) (nomark _))), ?_⟩
    refine ⟨_, rfl, _, rfl, A.a, C, A.x, _, _, rfl, t.ins, T.cl, T.nA, tf_wants, _, rfl, _, rfl, A, d, A.n, d.wants, ag, g, ad, dn, rfl, t, o, t.n, o.n, hg, rg, hd, rd, fun H1 s1 => ?_⟩
    refine ⟨_, rfl, _, rfl, A, d, ad, dn, rfl, t.same s1, o, s1 _ _ hd, rd, fun H2 s2 => ?_⟩
    refine ⟨rfl, ?_⟩
    rw [eq_natV]
    exact q _ (s1.trans s2)
theorem ok_restA (T : Txt K mg C) (D : Dfn K mg "rests_for_actor" sRestA) (Gw : Has P w K mg base 2 "worth_by" (spWorthBy C)) (Gm : Has P w K mg base 3 "most_to_actor" (spMostA C)) :
    Has P w K mg base 4 "rests_for_actor" (spPlan C fun d g dn => .bl (restA d g dn)) := by
  refine D.has scRestA ?_ (fun _ _ _ _ _ _ us hl => match us, hl with | [_, _, _], _ => rfl) ?_
  · rintro vs H Q E ⟨A, d, ag, g, ad, dn, rfl, _⟩
    rfl
  · rintro f cdv A0 outer s0 H vs Q E hr ⟨A, d, ag, g, ad, dn, rfl, t, o, hg, rg, hd, rd, q⟩
    refine ⟨_, pss_one (ps_ret (pe_cmpR op_eq (pe_h Gw hr (by decide) (by rfl) (pa_cons (pv 0) (pa_cons (pe_fld (pv 0) rfl) (pa_cons (pv 1) (pa_cons (pv 2) pa_nil))))) (pe_h Gm hr (by decide) (by rfl) (pa_cons (pv 0) (pa_cons (pv 1) pa_nil))) (nomark _))), ?_⟩
    refine ⟨_, rfl, _, rfl, A.a, C, A.x, _, _, rfl, t.ins, T.cl, T.nP, tf_pays, _, rfl, _, rfl, A, d, A.p, d.g.pays, ag, g, ad, dn, rfl, t, o, t.p, o.p, hg, rg, hd, rd, fun H1 s1 => ?_⟩
    refine ⟨_, rfl, _, rfl, A, d, ag, g, rfl, t.same s1, o, s1 _ _ hg, rg, fun H2 s2 => ?_⟩
    refine ⟨rfl, ?_⟩
    rw [eq_natV]
    exact q _ (s1.trans s2)
theorem ok_restB (T : Txt K mg C) (D : Dfn K mg "rests_for_both" sRestB) (Gg : Has P w K mg base 3 "rests_for_giver" (spPlan C fun d g dn => .bl (restG d g dn))) (Ga : Has P w K mg base 4 "rests_for_actor" (spPlan C fun d g dn => .bl (restA d g dn))) :
    Has P w K mg base 5 "rests_for_both" (spPlan C fun d g dn => .bl (restG d g dn && restA d g dn)) := by
  refine D.has scRestB ?_ (fun _ _ _ _ _ _ us hl => match us, hl with | [_, _, _], _ => rfl) ?_
  · rintro vs H Q E ⟨A, d, ag, g, ad, dn, rfl, _⟩
    rfl
  · rintro f cdv A0 outer s0 H vs Q E hr ⟨A, d, ag, g, ad, dn, rfl, t, o, hg, rg, hd, rd, q⟩
    refine ⟨_, pss_one (ps_ret (pe_and (pe_h Gg hr (by decide) (by rfl) (pa_cons (pv 0) (pa_cons (pv 1) (pa_cons (pv 2) pa_nil)))) (pe_one (pe_h Ga hr (by decide) (by rfl) (pa_cons (pv 0) (pa_cons (pv 1) (pa_cons (pv 2) pa_nil))))))), ?_⟩
    refine ⟨_, rfl, _, rfl, _, rfl, A, d, ag, g, ad, dn, rfl, t, o, hg, rg, hd, rd, fun H1 s1 => ⟨_, rfl, ?_⟩⟩
    have q : ∀ H', Same H H' → Q (.bl (restG d g dn && restA d g dn)) H' := q
    cases c : restG d g dn with
    | false =>
      rw [c, Bool.false_and] at q
      exact iteF (q _ s1)
    | true =>
      rw [c, Bool.true_and] at q
      exact iteT ⟨_, rfl, _, rfl, _, rfl, A, d, ag, g, ad, dn, rfl, t.same s1, o, s1 _ _ hg, rg, s1 _ _ hd, rd, fun H2 s2 => q _ (s1.trans s2)⟩
end
end Tw

set_option maxRecDepth 100000
set_option maxHeartbeats 2000000
namespace Tw
open PySem PySem.Spec PyProof.Rows L2
open Krcj (Game Plan)
open Krcm (Desk)

theorem rows_snoc (b : Nat) : ∀ n, Krcj.rows b (n + 1) = (Krcj.rows b n).flatMap fun r => (List.range b).map fun x => r ++ [x]
  | 0 => by
    show ((List.range b).flatMap fun x => [[x]]) = ([] :: []).flatMap _
    simp
    induction List.range b with
    | nil => rfl
    | cons x l ih => rw [List.flatMap_cons, ih, List.map_cons]; rfl
  | n + 1 => by
    have ih := rows_snoc b n
    show ((List.range b).flatMap fun x => (Krcj.rows b (n + 1)).map fun l => x :: l) = ((List.range b).flatMap fun x => (Krcj.rows b n).map fun l => x :: l).flatMap _
    rw [List.flatMap_assoc]
    congr 1
    funext x
    rw [ih, List.map_flatMap, List.flatMap_map]
    congr 1
    funext r
    rw [List.map_map]
    rfl
theorem rows_len (b : Nat) : ∀ n, (Krcj.rows b n).length = b ^ n
  | 0 => rfl
  | n + 1 => by
    show ((List.range b).flatMap fun x => (Krcj.rows b n).map fun l => x :: l).length = _
    have h : ∀ l : List Nat, (l.flatMap fun x => (Krcj.rows b n).map fun r => x :: r).length = l.length * b ^ n := by
      intro l
      induction l with
      | nil => simp
      | cons x l ih =>
        rw [List.flatMap_cons, List.length_append, ih, List.length_map, rows_len b n, List.length_cons, Nat.succ_mul]
        omega
    rw [h, List.length_range, Nat.pow_succ, Nat.mul_comm]
theorem rows_mem (b : Nat) : ∀ {n : Nat} {r : List Nat}, r ∈ Krcj.rows b n ↔ RowOk r n b
  | 0, r => by
    unfold RowOk
    constructor
    · intro h
      have e : r = [] := by simpa [Krcj.rows] using h
      subst e
      exact ⟨rfl, fun x hx => by cases hx⟩
    · rintro ⟨h, _⟩
      have e : r = [] := List.eq_nil_of_length_eq_zero h
      subst e
      simp [Krcj.rows]
  | n + 1, r => by
    have ih := @rows_mem b n
    show r ∈ ((List.range b).flatMap fun x => (Krcj.rows b n).map fun l => x :: l) ↔ _
    rw [List.mem_flatMap]
    constructor
    · rintro ⟨x, hx, hr⟩
      obtain ⟨l, hl, rfl⟩ := List.mem_map.mp hr
      obtain ⟨h1, h2⟩ := ih.mp hl
      refine ⟨by rw [List.length_cons, h1], fun y hy => ?_⟩
      rcases List.mem_cons.mp hy with rfl | hy
      · exact List.mem_range.mp hx
      · exact h2 y hy
    · rintro ⟨h1, h2⟩
      cases r with
      | nil => cases h1
      | cons x l =>
        refine ⟨x, List.mem_range.mpr (h2 x List.mem_cons_self), List.mem_map.mpr ⟨l, ih.mpr ⟨?_, fun y hy => h2 y (List.mem_cons_of_mem _ hy)⟩, rfl⟩⟩
        rw [List.length_cons] at h1
        omega
theorem pow_small {b i : Nat} (hb : b ≤ 3) (hi : i ≤ 3) : b ^ i ≤ 27 :=
  Nat.le_trans (Nat.pow_le_pow_left hb i) (Nat.pow_le_pow_right (n := 3) (by decide) hi)

/-! different ones -/
theorem getD_all (ns : List Int) : (List.range ns.length).map (fun i => ns.getD i 0) = ns := by
  apply List.ext_getElem?
  intro i
  rw [List.getElem?_map]
  by_cases h : i < ns.length
  · rw [List.getElem?_range h, List.getElem?_eq_getElem h]
    show some (ns.getD i 0) = _
    rw [List.getD_eq_getElem?_getD, List.getElem?_eq_getElem h]
    rfl
  · rw [List.getElem?_eq_none (by rw [List.length_range]; omega), List.getElem?_eq_none (by omega)]
    rfl
theorem dups_loop : ∀ (l bs : List Nat) (cs : List Int), (∀ x : Nat, x ∈ bs ↔ (x : Int) ∈ cs) → bs.length = cs.length →
    (List.eraseDupsBy.loop (fun a b => a == b) l bs).length = ((l.map fun (x : Nat) => (x : Int)).foldl step_dedup cs).length
  | [], bs, cs, h, e => by
    simp [List.eraseDupsBy.loop, e]
  | x :: l, bs, cs, h, e => by
    rw [List.map_cons, List.foldl_cons]
    unfold List.eraseDupsBy.loop
    unfold step_dedup
    by_cases c : x ∈ bs
    · have h1 : bs.any (fun y => x == y) = true := List.any_eq_true.mpr ⟨x, c, by simp⟩
      have h2 : cs.any (fun y => y == (x : Int)) = true := List.any_eq_true.mpr ⟨(x : Int), (h x).mp c, by simp⟩
      rw [h1, if_pos h2]
      exact dups_loop l bs cs h e
    · have h1 : bs.any (fun y => x == y) = false := by
        rw [Bool.eq_false_iff]
        intro q
        obtain ⟨y, hy, ey⟩ := List.any_eq_true.mp q
        have : x = y := by simpa using ey
        subst this
        exact c hy
      have h2 : ¬ cs.any (fun y => y == (x : Int)) = true := by
        intro q
        obtain ⟨y, hy, ey⟩ := List.any_eq_true.mp q
        have : y = (x : Int) := by simpa using ey
        subst this
        exact c ((h x).mpr hy)
      rw [h1, if_neg h2]
      refine dups_loop l (x :: bs) (cs ++ [(x : Int)]) (fun y => ?_) (by simp [e])
      rw [List.mem_cons, List.mem_append, h y, List.mem_singleton]
      constructor
      · rintro (rfl | q)
        · exact .inr rfl
        · exact .inl q
      · rintro (q | q)
        · exact .inr q
        · exact .inl (by omega)
theorem distinct_told (g : List Nat) : distinct (Krcj.ints g) = g.eraseDups.length := by
  unfold distinct firstMet
  rw [getD_all]
  have h := dups_loop g [] [] (by simp) rfl
  unfold List.eraseDups List.eraseDupsBy
  rw [h]
  rfl
end Tw

set_option maxRecDepth 100000
set_option maxHeartbeats 2000000
namespace Tw
open PySem PySem.Spec PyProof.Rows L2
open Krcj (Game Plan)
open Krcm (Desk)

/-- a list of lists, all of them new since G -/
structure RowsAt (G H : Hp) (p : Addr) (ps : List (Addr × List Nat)) : Prop where
  lst : H p = some (.lst (ps.map fun q => V.ref q.1))
  row : ∀ q ∈ ps, H q.1 = some (.lst (vi q.2)) ∧ G q.1 = none
section
variable {P : Program} {w : World} {K : PySem.W.Frag} {mg : Str → Option Value} {base : Heap} {C : Addr}

/-! all_rows(length, below) -/
abbrev sRows : Stmt := top 9
theorem scRows : FnScope ["length", "below", "rows", "place", "longer", "row", "number"] ["length", "below"] (defScope sRows) := ⟨rfl, rfl, rfl, by decide +kernel, rfl, by decide +kernel, by decide +kernel⟩
def spRows : Sp := fun vs H Q _ => ∃ (n b : Nat), vs = [.int n, .int b] ∧ n ≤ 3 ∧ b ≤ 3 ∧
  ∀ (H' : Hp) (p : Addr) (ps : List (Addr × List Nat)), Same H H' → RowsAt H H' p ps → H p = none → ps.map (·.2) = Krcj.rows b n → Q (.ref p) H'
theorem ok_rows (T : Txt K mg C) (D : Dfn K mg "all_rows" sRows) : Has P w K mg base 1 "all_rows" spRows := by
  refine D.has scRows ?_ (fun _ _ _ _ _ _ us hl => match us, hl with | [_, _], _ => rfl) ?_
  · rintro vs H Q E ⟨n, b, rfl, _⟩
    rfl
  · rintro f cdv A0 outer s0 H vs Q E hr ⟨n, b, rfl, hn, hb, q⟩
    refine ⟨_, pss_cons (ps_set (i := 2) scRows.nd rfl (Or.inl rfl) (pe_lst (pa_cons (pe_lst pa_nil) pa_nil)))
      (pss_cons (ps_for PassesOwn.never rfl (pi_range1 (by rfl) T.mrange (pa_cons (pv 0) pa_nil)) (pg_name (i := 3) scRows.nd rfl (Or.inl rfl))
        (pss_cons (ps_set (i := 4) scRows.nd rfl (Or.inl rfl) (pe_lst pa_nil))
        (pss_cons (ps_for PassesOwn.never rfl (pi_list (pv 2)) (pg_name (i := 5) scRows.nd rfl (Or.inl rfl))
          (pss_one (ps_for PassesOwn.never rfl (pi_range1 (by rfl) T.mrange (pa_cons (pv 1) pa_nil)) (pg_name (i := 6) scRows.nd rfl (Or.inl rfl))
            (pss_one (ps_expr (pe_bm PySem.F.plainAttrs_list PySem.F.slot_list_append PySem.F.type_list_append mt_append (pv 4) (pa_cons (pe_op op_cat (pv 5) (pe_lst (pa_cons (pv 6) pa_nil))) pa_nil)))))))
        (pss_one (ps_set (i := 2) scRows.nd rfl (Or.inl rfl) (pv 4))))))
      (pss_one (ps_ret (pv 2)))), ?_⟩
    refine ⟨Nat.zero_le _, fun r0 h0 => ⟨(by show 1 ≤ sizeLine; decide), fun p0 hp0 => ?_⟩⟩
    have hp0' : H p0 = none := (same_new h0).free hp0
    have s0' : Same H (upd (upd H r0 (.lst [])) p0 (.lst [.ref r0])) := same_put (same_new h0) hp0'
    have b0 : RowsAt H (upd (upd H r0 (.lst [])) p0 (.lst [.ref r0])) p0 [(r0, [])] := by
      refine ⟨upd_same, fun q hq => ?_⟩
      have e : q = (r0, []) := by simpa using hq
      subst e
      have ne : r0 ≠ p0 := fun e => by rw [← e, upd_same] at hp0; cases hp0
      exact ⟨by rw [upd_ne ne, upd_same]; rfl, h0⟩
    refine ⟨_, rfl, _, rfl, by omega, by omega, ?_⟩
    refine for_range (lo := 0) (n := n) (fun i σ H' => ∃ (p : Addr) (ps : List (Addr × List Nat)) (v3 v4 v5 v6 : Option V), σ = [some (.int n), some (.int b), some (.ref p), v3, v4, v5, v6] ∧ Same H H' ∧ RowsAt H H' p ps ∧ H p = none ∧ ps.map (·.2) = Krcj.rows b i)
      ⟨p0, _, none, none, none, none, rfl, s0', b0, hp0', rfl⟩ ?_ ?_
    · rintro i σ H1 hi ⟨p, ps, v3, v4, v5, v6, rfl, s1, R, hpn, e⟩
      have hlen : ps.length ≤ 27 := by
        have h := congrArg List.length e
        rw [List.length_map, rows_len] at h
        have := pow_small hb (show i ≤ 3 by omega)
        omega
      refine ⟨Nat.zero_le _, fun L hL => ?_⟩
      have hLn : H L = none := s1.free hL
      have pL : p ≠ L := ne_of_none R.lst hL
      have s2 : Same H1 (upd H1 L (.lst [])) := same_new hL
      refine ⟨_, rfl, p, rfl, ⟨_, SqL.of (s2 _ _ R.lst)⟩, ?_⟩
      refine for_list (K := K) (a := p) (xs := ps.map fun q => V.ref q.1) (fun j σ H' => ∃ (qs : List (Addr × List Nat)) (v5 v6 : Option V),
          σ = [some (.int n), some (.int b), some (.ref p), some (.int ((0 : Int) + (i : Nat))), some (.ref L), v5, v6] ∧ Same H1 H' ∧ RowsAt H H' L qs ∧ (∀ q ∈ qs, q.1 ≠ L) ∧
          qs.map (·.2) = ((ps.take j).map (·.2)).flatMap (fun r => (List.range b).map fun x => r ++ [x]) ∧ qs.length = j * b)
        ⟨[], _, _, rfl, s2, ⟨upd_same, fun q hq => by cases hq⟩, (fun q hq => by cases hq), rfl, by simp⟩ (fun j σ H' _ ⟨_, _, _, _, s3, _⟩ => SqL.of (s3 _ _ R.lst)) ?_ ?_
      · rintro j y σ H2 hj ⟨qs, v5, v6, rfl, s3, R2, ne2, e2, el⟩
        rw [List.getElem?_map] at hj
        cases er : ps[j]? with
        | none =>
          rw [er] at hj
          cases hj
        | some r =>
          rw [er] at hj
          obtain rfl : V.ref r.1 = y := Option.some.inj hj
          have hjl : j < ps.length := (List.getElem?_eq_some_iff.mp er).1
          have hr1 := R.row r (List.mem_of_getElem? er)
          have rL : r.1 ≠ L := ne_of_none hr1.1 hL
          refine ⟨_, rfl, _, rfl, by omega, by omega, ?_⟩
          refine for_range (lo := 0) (n := b) (fun x σ H' => ∃ (us : List (Addr × List Nat)) (v6 : Option V),
              σ = [some (.int n), some (.int b), some (.ref p), some (.int ((0 : Int) + (i : Nat))), some (.ref L), some (.ref r.1), v6] ∧ Same H1 H' ∧ RowsAt H H' L us ∧ (∀ q ∈ us, q.1 ≠ L) ∧
              us.map (·.2) = qs.map (·.2) ++ (List.range x).map (fun x => r.2 ++ [x]) ∧ us.length = j * b + x)
            ⟨qs, v6, rfl, s3, R2, ne2, by simp, by omega⟩ ?_ ?_
          · rintro x σ H3 hx ⟨us, v6, rfl, s4, R3, ne3, e3, el3⟩
            have hjb : j * b ≤ 27 * 3 := Nat.mul_le_mul (by omega) hb
            have hbig : 27 * 3 + 3 < sizeLine := by decide
            refine ⟨_, rfl, .inl ⟨rfl, _, SqL.of R3.lst⟩, _, rfl, _, rfl, (by show 1 ≤ sizeLine; decide), fun t ht => ?_⟩
            have s5 : Same H3 (upd H3 t (.lst [V.int ((0 : Int) + (x : Nat))])) := same_new ht
            refine ⟨r.1, t, _, _, rfl, rfl, s5 _ _ (s4 _ _ hr1.1), upd_same, ?_, fun u hu => ?_⟩
            · rw [vi_len]
              have h2 : r.2.length = i := by
                have hm : r.2 ∈ Krcj.rows b i := by
                  rw [← e]
                  exact List.mem_map.mpr ⟨r, List.mem_of_getElem? er, rfl⟩
                exact ((rows_mem b).mp hm).1
              rw [h2]
              show i + 1 ≤ sizeLine
              omega
            have hu3 : H3 u = none := s5.free hu
            have uL : L ≠ u := ne_of_none R3.lst hu3
            have s6 : Same H3 (upd (upd H3 t (.lst [V.int ((0 : Int) + (x : Nat))])) u (.lst (vi r.2 ++ [V.int ((0 : Int) + (x : Nat))]))) := same_put s5 hu3
            refine ⟨L, _, _, rfl, rfl, s6 _ _ R3.lst, (by rw [List.length_map]; omega), ?_⟩
            refine ⟨us ++ [(u, r.2 ++ [x])], _, rfl, ?_, ⟨?_, ?_⟩, ?_, ?_, ?_⟩
            · intro c o hc
              have cL : c ≠ L := ne_of_none hc hL
              rw [upd_ne cL]
              exact s6 _ _ (s4 _ _ hc)
            · rw [upd_same, List.map_append]
              rfl
            · intro q hq
              rcases List.mem_append.mp hq with hq | hq
              · rw [upd_ne (ne3 q hq)]
                exact ⟨s6 _ _ (R3.row q hq).1, (R3.row q hq).2⟩
              · have eq : q = (u, r.2 ++ [x]) := by simpa using hq
                subst eq
                refine ⟨?_, ?_⟩
                · rw [upd_ne (fun e => uL e.symm), upd_same, vi_snoc]
                  rw [show ((0 : Int) + (x : Nat)) = ((x : Nat) : Int) by omega]
                · exact s1.free (s4.free hu3)
            · intro q hq
              rcases List.mem_append.mp hq with hq | hq
              · exact ne3 q hq
              · have eq : q = (u, r.2 ++ [x]) := by simpa using hq
                subst eq
                exact fun e => uL e.symm
            · rw [List.map_append, e3, List.range_succ, List.map_append, List.append_assoc]
              rfl
            · rw [List.length_append, el3]
              rfl
          · rintro σ H3 ⟨us, v6, rfl, s4, R3, ne3, e3, el3⟩
            refine ⟨us, _, _, rfl, s4, R3, ne3, ?_, ?_⟩
            · rw [e3, e2, List.take_add_one, er, List.map_append, List.flatMap_append]
              simp
            · rw [el3, Nat.succ_mul]
      · rintro σ H2 ⟨qs, v5, v6, rfl, s3, R2, ne2, e2, el⟩
        refine ⟨_, rfl, L, qs, _, _, _, _, rfl, s1.trans s3, R2, hLn, ?_⟩
        rw [e2, List.length_map, List.take_length, e, rows_snoc]
    · rintro σ H1 ⟨p, ps, v3, v4, v5, v6, rfl, s1, R, hpn, e⟩
      exact ⟨_, rfl, q _ _ _ s1 R hpn e⟩

/-! told_apart(given) -/
abbrev sTold : Stmt := top 14
theorem scTold : FnScope ["given"] ["given"] (defScope sTold) := ⟨rfl, rfl, rfl, by decide +kernel, rfl, by decide +kernel, by decide +kernel⟩
def spTold : Sp := fun vs H Q _ => ∃ (a : Addr) (g : List Nat), vs = [.ref a] ∧ H a = some (.lst (vi g)) ∧ g.length < 64 ∧ Q (.int (g.eraseDups.length : Nat)) H
theorem ok_told (T : Txt K mg C) (D : Dfn K mg "told_apart" sTold) : Has P w K mg base 1 "told_apart" spTold := by
  refine D.has scTold ?_ (fun _ _ _ _ _ _ us hl => match us, hl with | [_], _ => rfl) ?_
  · rintro vs H Q E ⟨a, g, rfl, _⟩
    rfl
  · rintro f cdv A0 outer s0 H vs Q E hr ⟨a, g, rfl, hg, hl, q⟩
    refine ⟨_, pss_one (ps_ret (pe_lenSetD rfl (by rfl) T.mlen (by rfl) T.mset (pv 0))), ?_⟩
    refine ⟨_, rfl, a, Krcj.ints g, rfl, ?_, ?_, ?_⟩
    · rw [← vi_ints]
      exact SqL.of hg
    · unfold Krcj.ints
      rw [List.length_map]
      exact hl
    · rw [distinct_told]
      exact q
end
end Tw

set_option maxRecDepth 100000
set_option maxHeartbeats 2000000
namespace Tw
open PySem PySem.Spec PyProof.Rows L2
open Krcj (Game Plan)
open Krcm (Desk)

/-- a plan as a pair of lists -/
def PlanAt (H : Hp) (t : Addr) (p : Plan) : Prop := ∃ ag ad : Addr, H t = some (.tup [.ref ag, .ref ad]) ∧ H ag = some (.lst (vi p.send)) ∧ H ad = some (.lst (vi p.act))
structure PlansAt (H : Hp) (f : Addr) (ts : List (Addr × Plan)) : Prop where
  lst : H f = some (.lst (ts.map fun q => V.ref q.1))
  pl : ∀ q ∈ ts, PlanAt H q.1 q.2
theorem PlanAt.same {H H' : Hp} {t : Addr} {p : Plan} (a : PlanAt H t p) (s : Same H H') : PlanAt H' t p := by
  obtain ⟨ag, ad, h1, h2, h3⟩ := a
  exact ⟨ag, ad, s _ _ h1, s _ _ h2, s _ _ h3⟩
theorem PlansAt.same {H H' : Hp} {f : Addr} {ts : List (Addr × Plan)} (a : PlansAt H f ts) (s : Same H H') : PlansAt H' f ts :=
  ⟨s _ _ a.lst, fun q hq => (a.pl q hq).same s⟩
def restB (d : Desk) (p : Plan) : Bool := restG d p.send p.act && restA d p.send p.act
/-- all that stands but at F -/
def But (F : Addr) (H H' : Hp) : Prop := ∀ b o, b ≠ F → H b = some o → H' b = some o
theorem But.trans {F : Addr} {H H1 H2 : Hp} (a : But F H H1) (b : But F H1 H2) : But F H H2 := fun c o n h => b c o n (a c o n h)
theorem but_of {F : Addr} {H H' : Hp} (s : Same H H') : But F H H' := fun c o _ h => s c o h
theorem But.put {F : Addr} {H : Hp} {o : HO} : But F H (upd H F o) := fun c u n h => by rw [upd_ne n]; exact h
/-- plans whose parts don't lie at F -/
def PlanB (F : Addr) (H : Hp) (t : Addr) (p : Plan) : Prop := ∃ ag ad : Addr, H t = some (.tup [.ref ag, .ref ad]) ∧ H ag = some (.lst (vi p.send)) ∧ H ad = some (.lst (vi p.act)) ∧ t ≠ F ∧ ag ≠ F ∧ ad ≠ F
theorem PlanB.but {F : Addr} {H H' : Hp} {t : Addr} {p : Plan} (a : PlanB F H t p) (s : But F H H') : PlanB F H' t p := by
  obtain ⟨ag, ad, h1, h2, h3, n1, n2, n3⟩ := a
  exact ⟨ag, ad, s _ _ n1 h1, s _ _ n2 h2, s _ _ n3 h3, n1, n2, n3⟩
theorem PlanB.at {F : Addr} {H : Hp} {t : Addr} {p : Plan} (a : PlanB F H t p) : PlanAt H t p := by
  obtain ⟨ag, ad, h1, h2, h3, _⟩ := a
  exact ⟨ag, ad, h1, h2, h3⟩

/-- a comprehension over a list, with a test -/
theorem lcMf {T : Type} {K : PySem.W.Frag} {a : Addr} {ys : List T} {G : T → V} {g : TG} {tt : TT} {te : TE} {vs : List Nat} {σ : L2.St} {H1 : Hp} {D : Addr} {Qd : Hp → Prop} (B : T → Bool) (F : T → V) (hD : H1 D = none) (hn : ys.length < sizeLine) (hx : SqL K H1 a (ys.map G))
    (hs : ∀ (y : T) (H : Hp) (Q : VK) (R : Hp → Prop), y ∈ ys → Same H1 H → (B y = true → ∀ H', Same H H' → Q (F y) H') → (B y = false → ∀ H', Same H H' → R H') →
      g (G y) (wipe σ vs) H fun σ2 H2 => wipe σ2 vs = wipe σ vs ∧ tt σ2 H2 fun b H3 => if b = true then te σ2 H3 Q else R H3)
    (hd : ∀ H, Same H1 H → H D = some (.lst ((ys.filter B).map F)) → Qd H) :
    ∃ W : Nat → Nat → Hp → Prop, (∃ m, W 0 m (upd H1 D (.lst []))) ∧ ∀ i m H, W i m H →
      ((Itl K a).stop i H ∧ Qd H) ∨ ((Itl K a).go i H ∧ ∃ Nx : Hp → Prop, (∀ H', Nx H' → ∃ m', m' < m ∧ W (i + 1) m' H') ∧ ∀ x H', (Itl K a).yld i H x H' → g x (wipe σ vs) H' fun σ2 H2 => wipe σ2 vs = wipe σ vs ∧ tt σ2 H2 fun b H3 =>
        if b = true then te σ2 H3 fun y H4 => ∃ acc, H4 D = some (.lst acc) ∧ acc.length < sizeLine ∧ Nx (upd H4 D (.lst (acc ++ [y]))) else Nx H3) := by
  refine lc_list (xs := ys.map G) (fun i H => Same H1 H ∧ H D = some (.lst (((ys.take i).filter B).map F))) ⟨same_new hD, upd_same⟩ (fun i H _ p => p.1.seq hx) ?_ (fun H p => hd H p.1 (by have q := p.2; rw [List.length_map, List.take_length] at q; exact q))
  intro i x H hi p
  rw [List.getElem?_map] at hi
  cases ey : ys[i]? with
  | none =>
    rw [ey] at hi
    cases hi
  | some y =>
    rw [ey] at hi
    obtain rfl : G y = x := Option.some.inj hi
    have el : (ys.take (i + 1)).filter B = (ys.take i).filter B ++ if B y = true then [y] else [] := by
      rw [List.take_add_one, ey, List.filter_append]
      congr 1
      cases hb : B y with
      | true => simp [hb]
      | false => simp [hb]
    refine hs y H _ _ (List.mem_of_getElem? ey) p.1 ?_ ?_
    · intro hb H' s'
      refine ⟨_, s' _ _ p.2, ?_, same_put (p.1.trans s') hD, ?_⟩
      · rw [List.length_map]
        have h1 := List.length_filter_le B (ys.take i)
        rw [List.length_take] at h1
        omega
      · rw [upd_same, el, hb, if_pos rfl, List.map_append]
        rfl
    · intro hb H' s'
      refine ⟨p.1.trans s', ?_⟩
      rw [el, hb, if_neg (by decide), List.append_nil]
      exact s' _ _ p.2
theorem ixTK {X : Cx} (K : PySem.W.Frag) (h : X.K = K := by rfl) : IxR X (rIxT K) := h ▸ ix_tup

section
variable {P : Program} {w : World} {K : PySem.W.Frag} {mg : Str → Option Value} {base : Heap} {C : Addr}
/-! all_plans(table) -/
abbrev sAll : Stmt := top 10
theorem scAll : FnScope ["table", "found", "given", "done"] ["table"] (defScope sAll) := ⟨rfl, rfl, rfl, by decide +kernel, rfl, by decide +kernel, by decide +kernel⟩
def spAll (C : Addr) : Sp := fun vs H Q _ => ∃ (A : Ads) (d : Desk), vs = [.ref A.a] ∧ Tab C H A d ∧ Ok d ∧
  ∀ (H' : Hp) (f : Addr) (ts : List (Addr × Plan)), Same H H' → PlansAt H' f ts → ts.map (·.2) = d.g.plans → Q (.ref f) H'
theorem plans_len {d : Desk} (o : Ok d) : d.g.plans.length ≤ 729 := by
  have h : ∀ l : List (List Nat), (l.flatMap fun s => d.g.acts.map fun a => (⟨s, a⟩ : Plan)).length = l.length * d.g.acts.length := by
    intro l
    induction l with
    | nil => simp
    | cons x l ih => rw [List.flatMap_cons, List.length_append, ih, List.length_map, List.length_cons, Nat.succ_mul, Nat.add_comm]
  have h1 : d.g.sends.length ≤ 27 := by
    show (Krcj.rows d.g.m d.g.n).length ≤ 27
    rw [rows_len]
    exact pow_small o.m3 o.n3
  have h2 : d.g.acts.length ≤ 27 := by
    show (Krcj.rows d.g.k d.g.m).length ≤ 27
    rw [rows_len]
    exact pow_small o.k3 o.m3
  unfold Game.plans
  rw [h]
  exact Nat.mul_le_mul h1 h2
theorem ok_all (T : Txt K mg C) (D : Dfn K mg "all_plans" sAll) (Gr : Has P w K mg base 1 "all_rows" spRows) : Has P w K mg base 2 "all_plans" (spAll C) := by
  refine D.has scAll ?_ (fun _ _ _ _ _ _ us hl => match us, hl with | [_], _ => rfl) ?_
  · rintro vs H Q E ⟨A, d, rfl, _⟩
    rfl
  · rintro f cdv A0 outer s0 H vs Q E hr ⟨A, d, rfl, t, o, q⟩
    refine ⟨_, pss_cons (ps_set (i := 1) scAll.nd rfl (Or.inl rfl) (pe_lst pa_nil))
      (pss_cons (ps_for PassesOwn.never rfl (pi_list (pe_h Gr hr (by decide) (by rfl) (pa_cons (pe_fld (pv 0) rfl) (pa_cons (pe_fld (pv 0) rfl) pa_nil)))) (pg_name (i := 2) scAll.nd rfl (Or.inl rfl))
        (pss_one (ps_for PassesOwn.never rfl (pi_list (pe_h Gr hr (by decide) (by rfl) (pa_cons (pe_fld (pv 0) rfl) (pa_cons (pe_fld (pv 0) rfl) pa_nil)))) (pg_name (i := 3) scAll.nd rfl (Or.inl rfl))
          (pss_one (ps_expr (pe_bm PySem.F.plainAttrs_list PySem.F.slot_list_append PySem.F.type_list_append mt_append (pv 1) (pa_cons (pe_tup (pa_cons (pv 2) (pa_cons (pv 3) pa_nil))) pa_nil)))))))
      (pss_one (ps_ret (pv 1)))), ?_⟩
    refine ⟨Nat.zero_le _, fun F hF => ?_⟩
    have sF : Same H (upd H F (.lst [])) := same_new hF
    have t1 := t.same sF
    have hFl : upd H F (.lst []) F = some (.lst []) := upd_same
    generalize upd H F (.lst []) = HF at sF t1 hFl
    refine ⟨_, rfl, A.a, C, A.x, _, _, rfl, t1.ins, T.cl, T.nN, tf_ways, _, rfl, A.a, C, A.x, _, _, rfl, t1.ins, T.cl, T.nM, tf_signs, d.g.n, d.g.m, rfl, o.n3, o.m3, fun H1 p ps s1 R hp e => ?_⟩
    have pF : p ≠ F := fun z => by rw [z, hFl] at hp; cases hp
    have rF : ∀ q ∈ ps, q.1 ≠ F := fun q hq z => by have h := (R.row q hq).2; rw [z, hFl] at h; cases h
    refine ⟨p, rfl, ⟨_, SqL.of R.lst⟩, ?_⟩
    -- the plans of the first i rows of signs
    refine for_list (K := K) (a := p) (xs := ps.map fun q => V.ref q.1) (fun i σ H' => ∃ (ts : List (Addr × Plan)) (v2 v3 : Option V),
        σ = [some (.ref A.a), some (.ref F), v2, v3] ∧ Same H H' ∧ But F H1 H' ∧ H' F = some (.lst (ts.map fun q => V.ref q.1)) ∧ (∀ q ∈ ts, PlanB F H' q.1 q.2) ∧
        ts.map (·.2) = (((ps.take i).map (·.2)).flatMap fun s => d.g.acts.map fun a => (⟨s, a⟩ : Plan)))
      ⟨[], none, none, rfl, sF.trans s1, fun _ _ _ h => h, s1 _ _ hFl, (fun q hq => by cases hq), rfl⟩ (fun i σ H' _ ⟨_, _, _, _, _, bu, _⟩ => SqL.of (bu _ _ pF R.lst)) ?_ ?_
    · rintro i y σ H2 hi ⟨ts, v2, v3, rfl, s2, bu, hF2, pb, e2⟩
      rw [List.getElem?_map] at hi
      cases er : ps[i]? with
      | none =>
        rw [er] at hi
        cases hi
      | some r =>
        rw [er] at hi
        obtain rfl : V.ref r.1 = y := Option.some.inj hi
        have hil : i < ps.length := (List.getElem?_eq_some_iff.mp er).1
        have hrm := List.mem_of_getElem? er
        have hr1 := R.row r hrm
        have hr2 : H2 r.1 = some (.lst (vi r.2)) := bu _ _ (rF r hrm) hr1.1
        have ro : RowOk r.2 d.g.n d.g.m := (rows_mem d.g.m).mp (by rw [← e]; exact List.mem_map.mpr ⟨r, hrm, rfl⟩)
        have t2 := t.same s2
        refine ⟨_, rfl, A.a, C, A.x, _, _, rfl, t2.ins, T.cl, T.nM, tf_signs, _, rfl, A.a, C, A.x, _, _, rfl, t2.ins, T.cl, T.nK, tf_acts, d.g.m, d.g.k, rfl, o.m3, o.k3, fun H3 p2 ps2 s3 R2 hp2 e3 => ?_⟩
        have p2F : p2 ≠ F := fun z => by rw [z, hF2] at hp2; cases hp2
        have r2F : ∀ q ∈ ps2, q.1 ≠ F := fun q hq z => by have h := (R2.row q hq).2; rw [z, hF2] at h; cases h
        refine ⟨p2, rfl, ⟨_, SqL.of R2.lst⟩, ?_⟩
        refine for_list (K := K) (a := p2) (xs := ps2.map fun q => V.ref q.1) (fun j σ H' => ∃ (us : List (Addr × Plan)) (v3 : Option V),
            σ = [some (.ref A.a), some (.ref F), some (.ref r.1), v3] ∧ Same H H' ∧ But F H3 H' ∧ H' F = some (.lst (us.map fun q => V.ref q.1)) ∧ (∀ q ∈ us, PlanB F H' q.1 q.2) ∧
            us.map (·.2) = ts.map (·.2) ++ ((ps2.take j).map (·.2)).map fun a => (⟨r.2, a⟩ : Plan))
          ⟨ts, v3, rfl, s2.trans s3, fun _ _ _ h => h, s3 _ _ hF2, (fun q hq => (pb q hq).but (but_of s3)), by simp⟩ (fun j σ H' _ ⟨_, _, _, _, bu3, _⟩ => SqL.of (bu3 _ _ p2F R2.lst)) ?_ ?_
        · rintro j y σ H4 hj ⟨us, v3, rfl, s4, bu3, hF4, pb4, e4⟩
          rw [List.getElem?_map] at hj
          cases ea : ps2[j]? with
          | none =>
            rw [ea] at hj
            cases hj
          | some a =>
            rw [ea] at hj
            obtain rfl : V.ref a.1 = y := Option.some.inj hj
            have ham := List.mem_of_getElem? ea
            have ha1 := R2.row a ham
            have ha4 : H4 a.1 = some (.lst (vi a.2)) := bu3 _ _ (r2F a ham) ha1.1
            have hg4 : H4 r.1 = some (.lst (vi r.2)) := bu3 _ _ (rF r hrm) (s3 _ _ hr2)
            have ao : RowOk a.2 d.g.m d.g.k := (rows_mem d.g.k).mp (by rw [← e3]; exact List.mem_map.mpr ⟨a, ham, rfl⟩)
            have et : (ps2.take (j + 1)).map (·.2) = (ps2.take j).map (·.2) ++ [a.2] := by
              rw [List.take_add_one, ea, List.map_append]
              rfl
            refine ⟨_, rfl, .inl ⟨rfl, _, SqL.of hF4⟩, _, rfl, _, rfl, (by show 2 ≤ sizeLine; decide), fun tp htp => ?_⟩
            have tpF : F ≠ tp := ne_of_none hF4 htp
            have s6 : Same H4 (upd H4 tp (.tup [.ref r.1, .ref a.1])) := same_new htp
            have hsz : us.length < sizeLine := by
              have h1 := congrArg List.length e4
              have h2 := congrArg List.length e2
              rw [List.length_map, List.length_append, List.length_map] at h1
              rw [List.length_map] at h2
              have h3 : (((ps2.take j).map (·.2)).map fun a => (⟨r.2, a⟩ : Plan)).length ≤ 27 := by
                rw [List.length_map, List.length_map, List.length_take]
                have h5 := congrArg List.length e3
                rw [List.length_map, rows_len] at h5
                have := pow_small o.k3 o.m3
                omega
              have h4 : ts.length ≤ 729 := by
                rw [h2]
                refine Nat.le_trans ?_ (plans_len o)
                unfold Game.plans
                show _ ≤ ((Krcj.rows d.g.m d.g.n).flatMap _).length
                rw [← e, List.map_take]
                conv => rhs; rw [← List.take_append_drop i (ps.map (·.2)), List.flatMap_append, List.length_append]
                omega
              have h6 : 756 < sizeLine := by decide
              omega
            refine ⟨F, _, _, rfl, rfl, s6 _ _ hF4, (by rw [List.length_map]; exact hsz), ?_⟩
            have b7 : But F H4 (upd (upd H4 tp (.tup [.ref r.1, .ref a.1])) F (.lst (us.map (fun q => V.ref q.1) ++ [V.ref tp]))) := (but_of s6).trans But.put
            refine ⟨us ++ [(tp, ⟨r.2, a.2⟩)], _, rfl, ?_, bu3.trans b7, ?_, ?_, ?_⟩
            · intro c u hc
              have cF : c ≠ F := ne_of_none hc hF
              exact b7 c u cF (s4 _ _ hc)
            · rw [upd_same, List.map_append]
              rfl
            · intro z hz
              rcases List.mem_append.mp hz with hz | hz
              · exact (pb4 z hz).but b7
              · have ez : z = (tp, ⟨r.2, a.2⟩) := by simpa using hz
                subst ez
                refine ⟨r.1, a.1, ?_, b7 _ _ (rF r hrm) hg4, b7 _ _ (r2F a ham) ha4, fun z => tpF z.symm, rF r hrm, r2F a ham⟩
                rw [upd_ne (fun z => tpF z.symm), upd_same]
            · rw [List.map_append, e4, et, List.map_append, List.append_assoc]
              rfl
        · rintro σ H4 ⟨us, v3, rfl, s4, bu3, hF4, pb4, e4⟩
          refine ⟨us, _, _, rfl, s4, ?_, hF4, pb4, ?_⟩
          · exact (bu.trans (but_of s3)).trans bu3
          · rw [e4, e2, List.length_map, List.take_length, e3, List.take_add_one, er, List.map_append, List.flatMap_append]
            show _ = _ ++ List.flatMap _ [r.2]
            rw [List.flatMap_cons, List.flatMap_nil, List.append_nil]
            rfl
    · rintro σ H2 ⟨ts, v2, v3, rfl, s2, bu, hF2, pb, e2⟩
      refine ⟨_, rfl, q H2 F ts s2 ⟨hF2, fun z hz => (pb z hz).at⟩ ?_⟩
      rw [e2, List.length_map, List.take_length, e]
      rfl

theorem plan_ok {g : Game} {p : Plan} (h : p ∈ g.plans) : RowOk p.send g.n g.m ∧ RowOk p.act g.m g.k := by
  unfold Game.plans at h
  obtain ⟨s, hs, h⟩ := List.mem_flatMap.mp h
  obtain ⟨a, ha, rfl⟩ := List.mem_map.mp h
  exact ⟨(rows_mem g.m).mp hs, (rows_mem g.k).mp ha⟩

/-! plans_at_rest(table) -/
abbrev sPlans : Stmt := top 11
theorem scPlans : FnScope ["table", "plan"] ["table"] (defScope sPlans) := ⟨rfl, rfl, rfl, by decide +kernel, rfl, by decide +kernel, by decide +kernel⟩
def spPlans (C : Addr) : Sp := fun vs H Q _ => ∃ (A : Ads) (d : Desk), vs = [.ref A.a] ∧ Tab C H A d ∧ Ok d ∧
  ∀ (H' : Hp) (f : Addr) (ts : List (Addr × Plan)), Same H H' → PlansAt H' f ts → ts.map (·.2) = d.g.plans.filter (restB d) → Q (.ref f) H'
theorem ok_plans (T : Txt K mg C) (D : Dfn K mg "plans_at_rest" sPlans) (Gl : Has P w K mg base 2 "all_plans" (spAll C)) (Gb : Has P w K mg base 5 "rests_for_both" (spPlan C fun d g dn => .bl (restG d g dn && restA d g dn))) :
    Has P w K mg base 6 "plans_at_rest" (spPlans C) := by
  refine D.has scPlans ?_ (fun _ _ _ _ _ _ us hl => match us, hl with | [_], _ => rfl) ?_
  · rintro vs H Q E ⟨A, d, rfl, _⟩
    rfl
  · rintro f cdv A0 outer s0 H vs Q E hr ⟨A, d, rfl, t, o, q⟩
    refine ⟨_, pss_one (ps_ret (pe_lc (own := [("plan", 1)]) (g := gName 1) rfl scPlans.nd (pi_list (pe_h Gl hr (by decide) (by rfl) (pa_cons (pv 0) pa_nil)))
        (blkOk_by (own := [("plan", 1)]) (N := ["table", "plan"]) (sc := defScope sPlans) (by decide +kernel))
        (fun _ _ _ _ _ => pg_name (i := 1) scPlans.nd rfl (Or.inl rfl))
        (fun _ _ _ _ _ => pts_one (pt_val (pe_h Gb hr (by decide) (by rfl) (pa_cons (pv 0) (pa_cons (pe_ix (ixTK K) (pv 1) pe_int (fun _ _ => rfl)) (pa_cons (pe_ix (ixTK K) (pv 1) pe_int (fun _ _ => rfl)) pa_nil))))))
        (fun _ _ _ _ _ => pv 1))), ?_⟩
    refine ⟨_, rfl, A, d, rfl, t, o, fun H1 F ts s1 R e => ?_⟩
    have hlen : ts.length ≤ 729 := by
      have h := congrArg List.length e
      rw [List.length_map] at h
      have h3 := plans_len o
      omega
    refine ⟨F, rfl, ⟨_, SqL.of R.lst⟩, fun L hL => ?_⟩
    refine lcMf (ys := ts) (G := fun (y : Addr × Plan) => V.ref y.1) (fun y => restB d y.2) (fun y => V.ref y.1) hL (Nat.lt_of_le_of_lt hlen (by decide)) (SqL.of R.lst) ?_ ?_
    · intro y H2 Q2 R2 hy s2 q1 q2
      obtain ⟨ag, ad, h1, h2, h3⟩ := (R.pl y hy).same s2
      have ym : y.2 ∈ d.g.plans := by
        rw [← e]
        exact List.mem_map.mpr ⟨y, hy, rfl⟩
      obtain ⟨rg, rd⟩ := plan_ok ym
      refine ⟨rfl, _, rfl, _, rfl, y.1, _, _, _, rfl, rfl, SqT.of h1, at_of (j := 0) rfl rfl, _, rfl, y.1, _, _, _, rfl, rfl, SqT.of h1, at_of (j := 1) rfl rfl,
        A, d, ag, y.2.send, ad, y.2.act, rfl, t.same (s1.trans s2), o, h2, rg, h3, rd, fun H3 s3 => ⟨_, rfl, ?_⟩⟩
      show if (restB d y.2) = true then _ else _
      cases hb : restB d y.2 with
      | true => exact iteT ⟨_, rfl, q1 hb _ s3⟩
      | false => exact iteF (q2 hb _ s3)
    · intro H2 s2 hL2
      refine q H2 L (ts.filter fun y => restB d y.2) (s1.trans s2) ⟨hL2, fun z hz => (R.pl z (List.mem_filter.mp hz).1).same s2⟩ ?_
      rw [← e, List.filter_map]
      rfl

/-! worths_by(table, numbers, found) -/
abbrev sWorths : Stmt := top 12
theorem scWorths : FnScope ["table", "numbers", "found", "plan"] ["table", "numbers", "found"] (defScope sWorths) := ⟨rfl, rfl, rfl, by decide +kernel, rfl, by decide +kernel, by decide +kernel⟩
def spWorths (C : Addr) : Sp := fun vs H Q _ => ∃ (A : Ads) (d : Desk) (al : Addr) (l : List Nat) (f : Addr) (ts : List (Addr × Plan)),
  vs = [.ref A.a, .ref al, .ref f] ∧ Tab C H A d ∧ Ok d ∧ H al = some (.lst (vi l)) ∧ RowOk l (d.g.n * d.g.k) 10 ∧ PlansAt H f ts ∧ (∀ q ∈ ts, q.2 ∈ d.g.plans) ∧ ts.length ≤ 729 ∧
  ∀ (H' : Hp) (p : Addr), Same H H' → H p = none → H' p = some (.lst (vi (ts.map fun q => (Krcm.other d.g l).worth q.2))) → Q (.ref p) H'
theorem ok_worths (T : Txt K mg C) (D : Dfn K mg "worths_by" sWorths) (Gw : Has P w K mg base 2 "worth_by" (spWorthBy C)) : Has P w K mg base 3 "worths_by" (spWorths C) := by
  refine D.has scWorths ?_ (fun _ _ _ _ _ _ us hl => match us, hl with | [_, _, _], _ => rfl) ?_
  · rintro vs H Q E ⟨A, d, al, l, f, ts, rfl, _⟩
    rfl
  · rintro f cdv A0 outer s0 H vs Q E hr ⟨A, d, al, l, F, ts, rfl, t, o, hl, rl, R, hp, hlen, q⟩
    refine ⟨_, pss_one (ps_ret (pe_lc (own := [("plan", 3)]) (g := gName 3) (tt := tYes) rfl scWorths.nd (pi_list (pv 2))
        (blkOk_by (own := [("plan", 3)]) (N := ["table", "numbers", "found", "plan"]) (sc := defScope sWorths) (by decide +kernel))
        (fun _ _ _ _ _ => pg_name (i := 3) scWorths.nd rfl (Or.inl rfl)) (fun _ _ _ _ _ => pts_nil)
        (fun _ _ _ _ _ => pe_h Gw hr (by decide) (by rfl) (pa_cons (pv 0) (pa_cons (pv 1) (pa_cons (pe_ix (ixTK K) (pv 3) pe_int (fun _ _ => rfl)) (pa_cons (pe_ix (ixTK K) (pv 3) pe_int (fun _ _ => rfl)) pa_nil))))))), ?_⟩
    refine ⟨_, rfl, F, rfl, ⟨_, SqL.of R.lst⟩, fun L hL => ?_⟩
    refine lcM (ys := ts) (G := fun (y : Addr × Plan) => V.ref y.1) (fun y => V.int ((Krcm.other d.g l).worth y.2 : Nat)) hL (Nat.lt_of_le_of_lt hlen (by decide)) (SqL.of R.lst) ?_ gName_mono ?_
    · intro y H2 Q2 hy s2 q2
      obtain ⟨ag, ad, h1, h2, h3⟩ := (R.pl y hy).same s2
      obtain ⟨rg, rd⟩ := plan_ok (hp y hy)
      exact ⟨rfl, _, rfl, _, rfl, _, rfl, y.1, _, _, _, rfl, rfl, SqT.of h1, at_of (j := 0) rfl rfl, _, rfl, y.1, _, _, _, rfl, rfl, SqT.of h1, at_of (j := 1) rfl rfl,
        A, d, al, l, ag, y.2.send, ad, y.2.act, rfl, t.same s2, o, s2 _ _ hl, rl, h2, rg, h3, rd, fun H3 s3 => q2 _ s3⟩
    · intro H2 s2 hL2
      refine q H2 L s2 hL ?_
      rw [vi_map]
      exact hL2

/-! best_to_actor(table) -/
abbrev sBestA : Stmt := top 13
theorem scBestA : FnScope ["table", "given"] ["table"] (defScope sBestA) := ⟨rfl, rfl, rfl, by decide +kernel, rfl, by decide +kernel, by decide +kernel⟩
def spBestA (C : Addr) : Sp := fun vs H Q _ => ∃ (A : Ads) (d : Desk), vs = [.ref A.a] ∧ Tab C H A d ∧ Ok d ∧ ∀ H', Same H H' → Q (.int (mx ((Krcj.rows d.g.m d.g.n).map (mostA d)) : Nat)) H'
theorem rows_some {b n : Nat} (h : 1 ≤ b) : List.replicate n 0 ∈ Krcj.rows b n := (rows_mem b).mpr ⟨List.length_replicate, fun x hx => by rw [(List.mem_replicate.mp hx).2]; exact h⟩
theorem ok_bestA (T : Txt K mg C) (D : Dfn K mg "best_to_actor" sBestA) (Gr : Has P w K mg base 1 "all_rows" spRows) (Gm : Has P w K mg base 3 "most_to_actor" (spMostA C)) : Has P w K mg base 4 "best_to_actor" (spBestA C) := by
  refine D.has scBestA ?_ (fun _ _ _ _ _ _ us hl => match us, hl with | [_], _ => rfl) ?_
  · rintro vs H Q E ⟨A, d, rfl, _⟩
    rfl
  · rintro f cdv A0 outer s0 H vs Q E hr ⟨A, d, rfl, t, o, q⟩
    refine ⟨_, pss_one (ps_ret (pe_callB (cr_max rfl) (by rfl) T.mmax (by decide +kernel) (pa_cons
      (pe_lc (own := [("given", 1)]) (g := gName 1) (tt := tYes) rfl scBestA.nd (pi_list (pe_h Gr hr (by decide) (by rfl) (pa_cons (pe_fld (pv 0) rfl) (pa_cons (pe_fld (pv 0) rfl) pa_nil))))
        (blkOk_by (own := [("given", 1)]) (N := ["table", "given"]) (sc := defScope sBestA) (by decide +kernel))
        (fun _ _ _ _ _ => pg_name (i := 1) scBestA.nd rfl (Or.inl rfl)) (fun _ _ _ _ _ => pts_nil)
        (fun _ _ _ _ _ => pe_h Gm hr (by decide) (by rfl) (pa_cons (pv 0) (pa_cons (pv 1) pa_nil)))) pa_nil))), ?_⟩
    refine ⟨_, rfl, A.a, C, A.x, _, _, rfl, t.ins, T.cl, T.nN, tf_ways, _, rfl, A.a, C, A.x, _, _, rfl, t.ins, T.cl, T.nM, tf_signs, d.g.n, d.g.m, rfl, o.n3, o.m3, fun H1 p ps s1 R hp e => ?_⟩
    have hlen : ps.length ≤ 27 := by
      have h := congrArg List.length e
      rw [List.length_map, rows_len] at h
      have := pow_small o.m3 o.n3
      omega
    refine ⟨p, rfl, ⟨_, SqL.of R.lst⟩, fun L hL => ?_⟩
    refine lcM (ys := ps) (G := fun (y : Addr × List Nat) => V.ref y.1) (fun y => V.int (mostA d y.2 : Nat)) hL (Nat.lt_of_le_of_lt hlen (by decide)) (SqL.of R.lst) ?_ gName_mono ?_
    · intro y H2 Q2 hy s2 q2
      have ro : RowOk y.2 d.g.n d.g.m := (rows_mem d.g.m).mp (by rw [← e]; exact List.mem_map.mpr ⟨y, hy, rfl⟩)
      exact ⟨rfl, _, rfl, _, rfl, A, d, y.1, y.2, rfl, t.same (s1.trans s2), o, s2 _ _ (R.row y hy).1, ro, fun H3 s3 => q2 _ s3⟩
    · intro H2 s2 hL2
      refine ⟨L, (ps.map fun y => mostA d y.2).map (fun (x : Nat) => (x : Int)), rfl, ?_, ?_, ?_⟩
      · rw [List.map_map, List.map_map]
        exact SqL.of hL2
      · rw [List.length_map, List.length_map]
        have h := rows_some (n := d.g.n) o.m1
        rw [← e] at h
        obtain ⟨y, hy, _⟩ := List.mem_map.mp h
        exact List.length_pos_of_mem hy
      · intro z hz hle
        have ez := mx_int hz hle
        subst ez
        have em : (ps.map fun y => mostA d y.2) = (Krcj.rows d.g.m d.g.n).map (mostA d) := by
          rw [← e, List.map_map]
          rfl
        rw [em]
        exact q _ (s1.trans s2)
end
end Tw

set_option maxRecDepth 100000
set_option maxHeartbeats 2000000
namespace Tw
open PySem PySem.Spec PyProof.Rows L2
open Krcj (Game Plan)
open Krcm (Desk)

/-! sums over a range -/
def sm (n : Nat) (f : Nat → Nat) : Nat := (List.range n).foldl (fun t s => t + f s) 0
theorem sm_zero (f : Nat → Nat) : sm 0 f = 0 := rfl
theorem sm_succ (n : Nat) (f : Nat → Nat) : sm (n + 1) f = sm n f + f n := foldl_range_succ _ _ _
theorem sm_congr {f g : Nat → Nat} : ∀ {n : Nat}, (∀ i, i < n → f i = g i) → sm n f = sm n g
  | 0, _ => rfl
  | n + 1, h => by
    rw [sm_succ, sm_succ, sm_congr (n := n) fun i hi => h i (by omega), h n (by omega)]
theorem sm_le {f g : Nat → Nat} : ∀ {n : Nat}, (∀ i, i < n → f i ≤ g i) → sm n f ≤ sm n g
  | 0, _ => Nat.le_refl _
  | n + 1, h => by
    rw [sm_succ, sm_succ]
    have h1 := sm_le (n := n) fun i hi => h i (by omega)
    have h2 := h n (by omega)
    omega
theorem sm_add (f g : Nat → Nat) : ∀ n, sm n (fun i => f i + g i) = sm n f + sm n g
  | 0 => rfl
  | n + 1 => by
    rw [sm_succ, sm_succ, sm_succ, sm_add f g n]
    omega
theorem sm_none : ∀ n, sm n (fun _ => 0) = 0
  | 0 => rfl
  | n + 1 => by rw [sm_succ, sm_none n]
theorem sm_swap (f : Nat → Nat → Nat) (m : Nat) : ∀ n, sm n (fun i => sm m (fun j => f i j)) = sm m (fun j => sm n (fun i => f i j))
  | 0 => by
    show 0 = sm m fun j => 0
    rw [sm_none]
  | n + 1 => by
    rw [sm_succ, sm_swap f m n, ← sm_add]
    refine sm_congr fun j _ => ?_
    rw [sm_succ]
theorem sm_one (v j0 : Nat) : ∀ m, sm m (fun j => if j0 = j then v else 0) = if j0 < m then v else 0
  | 0 => by simp [sm_zero]
  | m + 1 => by
    rw [sm_succ, sm_one v j0 m]
    by_cases h : j0 = m
    · subst h
      rw [if_neg (by omega), if_pos rfl, if_pos (by omega), Nat.zero_add]
    · rw [if_neg h]
      by_cases h2 : j0 < m
      · rw [if_pos h2, if_pos (by omega), Nat.add_zero]
      · rw [if_neg h2, if_neg (by omega)]
theorem sm_if (p : Nat → Prop) [DecidablePred p] (f : Nat → Nat) : ∀ n, (List.range n).foldl (fun v s => if p s then v + f s else v) 0 = sm n (fun s => if p s then f s else 0)
  | 0 => rfl
  | n + 1 => by
    rw [foldl_range_succ, sm_succ, ← sm_if p f n]
    by_cases h : p n
    · rw [if_pos h, if_pos h]
    · rw [if_neg h, if_neg h, Nat.add_zero]

theorem worth_sm (d : Desk) (l g dn : List Nat) : (Krcm.other d.g l).worth ⟨g, dn⟩ = sm d.g.n fun s => wv d l s (dn.getD (g.getD s 0) 0) := rfl
theorem giver_sm (d : Desk) (g dn : List Nat) : d.giver.worth ⟨g, dn⟩ = sm d.g.n fun s => wv d d.wants s (dn.getD (g.getD s 0) 0) := rfl
theorem actor_sm (d : Desk) (g dn : List Nat) : d.g.worth ⟨g, dn⟩ = sm d.g.n fun s => wv d d.g.pays s (dn.getD (g.getD s 0) 0) := rfl
theorem wact_sm (d : Desk) (g : List Nat) (j a : Nat) : wact d g j a = sm d.g.n fun s => if g.getD s 0 = j then wv d d.g.pays s a else 0 := sm_if (fun s => g.getD s 0 = j) _ _
/-- by signs -/
theorem actor_by {d : Desk} {g dn : List Nat} (rg : RowOk g d.g.n d.g.m) : d.g.worth ⟨g, dn⟩ = sm d.g.m fun j => wact d g j (dn.getD j 0) := by
  rw [actor_sm]
  have h : (sm d.g.m fun j => wact d g j (dn.getD j 0)) = sm d.g.m fun j => sm d.g.n fun s => if g.getD s 0 = j then wv d d.g.pays s (dn.getD j 0) else 0 := sm_congr fun j _ => wact_sm d g j _
  rw [h, ← sm_swap]
  refine sm_congr fun s hs => ?_
  have h2 : (sm d.g.m fun j => if g.getD s 0 = j then wv d d.g.pays s (dn.getD j 0) else 0) = sm d.g.m fun j => if g.getD s 0 = j then wv d d.g.pays s (dn.getD (g.getD s 0) 0) else 0 := sm_congr fun j _ => by
    by_cases c : g.getD s 0 = j
    · rw [if_pos c, if_pos c, c]
    · rw [if_neg c, if_neg c]
  rw [h2, sm_one, if_pos (rg.get hs)]

/-! the first best -/
theorem best_go (f : Nat → Nat) : ∀ (l : List Nat) (b : Nat × Nat), b.2 = f b.1 →
    ∃ y : Nat × Nat, l.foldl (fun (b : Option (Nat × Nat)) x => match b with
      | none => some (x, f x)
      | some y => if y.2 < f x then some (x, f x) else some y) (some b) = some y ∧ y.2 = f y.1 ∧ (y.1 = b.1 ∨ y.1 ∈ l) ∧ b.2 ≤ y.2 ∧ ∀ x ∈ l, f x ≤ y.2
  | [], b, e => ⟨b, rfl, e, .inl rfl, Nat.le_refl _, fun x hx => by cases hx⟩
  | x :: l, b, e => by
    rw [List.foldl_cons]
    by_cases c : b.2 < f x
    · obtain ⟨y, h1, h2, h3, h4, h5⟩ := best_go f l (x, f x) rfl
      refine ⟨y, ?_, h2, .inr ?_, by simp only at h4; omega, fun z hz => ?_⟩
      · rw [← h1]
        simp only [if_pos c]
      · rcases h3 with h3 | h3
        · rw [h3]
          exact List.mem_cons_self
        · exact List.mem_cons_of_mem _ h3
      · rcases List.mem_cons.mp hz with rfl | hz
        · exact h4
        · exact h5 z hz
    · obtain ⟨y, h1, h2, h3, h4, h5⟩ := best_go f l b e
      refine ⟨y, ?_, h2, ?_, h4, fun z hz => ?_⟩
      · rw [← h1]
        simp only [if_neg c]
      · rcases h3 with h3 | h3
        · exact .inl h3
        · exact .inr (List.mem_cons_of_mem _ h3)
      · rcases List.mem_cons.mp hz with rfl | hz
        · omega
        · exact h5 z hz
theorem firstBest_ok {n : Nat} (f : Nat → Nat) (hn : 1 ≤ n) : Krcj.firstBest (List.range n) f < n ∧ ∀ x, x < n → f x ≤ f (Krcj.firstBest (List.range n) f) := by
  obtain ⟨m, rfl⟩ : ∃ m, n = m + 1 := ⟨n - 1, by omega⟩
  obtain ⟨y, h1, h2, h3, h4, h5⟩ := best_go f ((List.range m).map Nat.succ) (0, f 0) rfl
  have e : Krcj.firstBest (List.range (m + 1)) f = y.1 := by
    unfold Krcj.firstBest
    rw [List.range_succ_eq_map, List.foldl_cons]
    exact congrArg (fun z => (Option.map Prod.fst z).getD 0) h1
  rw [e]
  refine ⟨?_, fun x hx => ?_⟩
  · rcases h3 with h3 | h3
    · rw [h3]
      exact Nat.succ_pos m
    · obtain ⟨z, hz, e2⟩ := List.mem_map.mp h3
      rw [← e2]
      exact Nat.succ_lt_succ (List.mem_range.mp hz)
  · rw [← h2]
    cases x with
    | zero => exact h4
    | succ x => exact h5 _ (List.mem_map.mpr ⟨x, List.mem_range.mpr (by omega), rfl⟩)

theorem getD_map {n i : Nat} (f : Nat → Nat) (h : i < n) : ((List.range n).map f).getD i 0 = f i := by
  rw [List.getD_eq_getElem?_getD, List.getElem?_map, List.getElem?_range h]
  rfl
theorem mx_range {n : Nat} (f : Nat → Nat) {b : Nat} (hb : b < n) (h : ∀ x, x < n → f x ≤ f b) : mx ((List.range n).map f) = f b := by
  have h1 : f b ≤ mx ((List.range n).map f) := mx_ge (List.mem_map.mpr ⟨b, List.mem_range.mpr hb, rfl⟩)
  obtain ⟨x, hx, e⟩ := List.mem_map.mp (mx_mem (l := (List.range n).map f) (by intro z; have := congrArg List.length z; simp at this; omega))
  have h2 := h x (List.mem_range.mp hx)
  omega
theorem row_range {l : List Nat} {n b : Nat} (r : RowOk l n b) : l = (List.range n).map fun i => l.getD i 0 := by
  apply List.ext_getElem?
  intro i
  by_cases h : i < n
  · rw [List.getElem?_map, List.getElem?_range h, List.getElem?_eq_getElem (by rw [r.1]; exact h)]
    show _ = some (l.getD i 0)
    rw [List.getD_eq_getElem?_getD, List.getElem?_eq_getElem (by rw [r.1]; exact h)]
    rfl
  · rw [List.getElem?_eq_none (by rw [r.1]; omega), List.getElem?_eq_none (by rw [List.length_map, List.length_range]; omega)]
theorem row_map {n b : Nat} {f : Nat → Nat} (h : ∀ i, i < n → f i < b) : RowOk ((List.range n).map f) n b := by
  refine ⟨by rw [List.length_map, List.length_range], fun x hx => ?_⟩
  obtain ⟨i, hi, rfl⟩ := List.mem_map.mp hx
  exact h i (List.mem_range.mp hi)

/-! the most to who gives signs -/
theorem giver_le {d : Desk} {g dn : List Nat} (rg : RowOk g d.g.n d.g.m) (rd : RowOk dn d.g.m d.g.k) : d.giver.worth ⟨g, dn⟩ ≤ mostG d dn := by
  rw [giver_sm]
  refine sm_le fun s hs => mx_ge (List.mem_map.mpr ⟨_, ?_, rfl⟩)
  have hj := rg.get hs
  rw [List.getD_eq_getElem?_getD, List.getElem?_eq_getElem (by rw [rd.1]; exact hj)]
  exact List.getElem_mem _
theorem sends_ok {d : Desk} (o : Ok d) (dn : List Nat) : RowOk (d.giver.bestSends dn) d.g.n d.g.m :=
  row_map fun s hs => (firstBest_ok _ o.m1).1
theorem giver_best {d : Desk} (o : Ok d) {dn : List Nat} (rd : RowOk dn d.g.m d.g.k) : d.giver.worth ⟨d.giver.bestSends dn, dn⟩ = mostG d dn := by
  rw [giver_sm]
  refine sm_congr fun s hs => ?_
  have e : (d.giver.bestSends dn).getD s 0 = Krcj.firstBest (List.range d.g.m) fun t => d.giver.pay s (dn.getD t 0) := getD_map _ hs
  rw [e]
  obtain ⟨h1, h2⟩ := firstBest_ok (fun t => d.giver.pay s (dn.getD t 0)) o.m1
  generalize Krcj.firstBest (List.range d.g.m) (fun t => d.giver.pay s (dn.getD t 0)) = b at h1 h2
  have e2 : dn.map (wv d d.wants s) = (List.range d.g.m).map fun t => wv d d.wants s (dn.getD t 0) := by
    conv => lhs; rw [row_range rd]
    rw [List.map_map]
    rfl
  rw [e2, mx_range (fun t => wv d d.wants s (dn.getD t 0)) h1]
  intro x hx
  exact Nat.mul_le_mul_left _ (h2 x hx)

/-! the most to who acts -/
theorem actor_le {d : Desk} {g dn : List Nat} (rg : RowOk g d.g.n d.g.m) (rd : RowOk dn d.g.m d.g.k) : d.g.worth ⟨g, dn⟩ ≤ mostA d g := by
  rw [actor_by rg]
  exact sm_le fun j hj => mx_ge (List.mem_map.mpr ⟨_, List.mem_range.mpr (rd.get hj), rfl⟩)
theorem acts_ok {d : Desk} (o : Ok d) (g : List Nat) : RowOk (d.g.bestActs g) d.g.m d.g.k :=
  row_map fun s hs => (firstBest_ok _ o.k1).1
theorem actor_best {d : Desk} (o : Ok d) {g : List Nat} (rg : RowOk g d.g.n d.g.m) : d.g.worth ⟨g, d.g.bestActs g⟩ = mostA d g := by
  rw [actor_by rg]
  refine sm_congr fun j hj => ?_
  have e : (d.g.bestActs g).getD j 0 = d.g.actFor g j := getD_map _ hj
  rw [e]
  obtain ⟨h1, h2⟩ := firstBest_ok (wact d g j) o.k1
  exact (mx_range (wact d g j) h1 h2).symm

/-! at rest -/
theorem rest_eq {d : Desk} (o : Ok d) {p : Plan} (rg : RowOk p.send d.g.n d.g.m) (rd : RowOk p.act d.g.m d.g.k) : d.rest p = restB d p := by
  unfold Desk.rest restB
  congr 1
  · unfold restG
    rw [Bool.eq_iff_iff, List.all_eq_true, decide_eq_true_iff]
    constructor
    · intro h
      have h1 := h (d.giver.bestSends p.act) ((rows_mem d.g.m).mpr (sends_ok o _))
      rw [decide_eq_true_iff, giver_best o rd] at h1
      have h2 : d.giver.worth p ≤ mostG d p.act := giver_le rg rd
      exact Nat.le_antisymm h2 h1
    · intro h s hs
      rw [decide_eq_true_iff]
      have h1 : d.giver.worth ⟨s, p.act⟩ ≤ mostG d p.act := giver_le ((rows_mem d.g.m).mp hs) rd
      have h2 : d.giver.worth p = mostG d p.act := h
      omega
  · unfold restA
    rw [Bool.eq_iff_iff, List.all_eq_true, decide_eq_true_iff]
    constructor
    · intro h
      have h1 := h (d.g.bestActs p.send) ((rows_mem d.g.k).mpr (acts_ok o _))
      rw [decide_eq_true_iff, actor_best o rg] at h1
      have h2 : d.g.worth p ≤ mostA d p.send := actor_le rg rd
      exact Nat.le_antisymm h2 h1
    · intro h a ha
      rw [decide_eq_true_iff]
      have h1 : d.g.worth ⟨p.send, a⟩ ≤ mostA d p.send := actor_le rg ((rows_mem d.g.k).mp ha)
      have h2 : d.g.worth p = mostA d p.send := h
      omega
theorem plans_mem {g : Game} {p : Plan} : p ∈ g.plans ↔ RowOk p.send g.n g.m ∧ RowOk p.act g.m g.k := by
  unfold Game.plans
  rw [List.mem_flatMap]
  constructor
  · rintro ⟨s, hs, h⟩
    obtain ⟨a, ha, rfl⟩ := List.mem_map.mp h
    exact ⟨(rows_mem g.m).mp hs, (rows_mem g.k).mp ha⟩
  · rintro ⟨h1, h2⟩
    exact ⟨p.send, (rows_mem g.m).mpr h1, List.mem_map.mpr ⟨p.act, (rows_mem g.k).mpr h2, rfl⟩⟩
theorem rests_eq {d : Desk} (o : Ok d) : d.g.plans.filter (restB d) = d.rests := by
  unfold Desk.rests
  refine List.filter_congr fun p hp => ?_
  obtain ⟨h1, h2⟩ := plans_mem.mp hp
  exact (rest_eq o h1 h2).symm

/-! to tell nothing is at rest -/
theorem row_rep {n b x : Nat} (h : x < b) : RowOk (List.replicate n x) n b :=
  ⟨List.length_replicate, fun y hy => by rw [(List.mem_replicate.mp hy).2]; exact h⟩
theorem getD_rep {n x i : Nat} (h : i < n) : (List.replicate n x).getD i 0 = x := by
  rw [List.getD_eq_getElem?_getD, List.getElem?_replicate, if_pos h]
  rfl
theorem mx_rep {n x : Nat} (hn : 1 ≤ n) (f : Nat → Nat) : mx ((List.replicate n x).map f) = f x := by
  obtain ⟨m, rfl⟩ : ∃ m, n = m + 1 := ⟨n - 1, by omega⟩
  have h := mx_mem (l := (List.replicate (m + 1) x).map f) (by simp [List.replicate_succ])
  obtain ⟨y, hy, e⟩ := List.mem_map.mp h
  rw [← e, (List.mem_replicate.mp hy).2]
theorem nothing_ok {d : Desk} (o : Ok d) : RowOk d.nothing.send d.g.n d.g.m ∧ RowOk d.nothing.act d.g.m d.g.k :=
  ⟨row_rep o.m1, row_rep (firstBest_ok _ o.k1).1⟩
theorem nothing_rest {d : Desk} (o : Ok d) : restB d d.nothing = true := by
  unfold restB
  rw [Bool.and_eq_true]
  have a1 : d.g.actFor (List.replicate d.g.n 0) 0 < d.g.k := (firstBest_ok _ o.k1).1
  constructor
  · unfold restG
    rw [decide_eq_true_iff]
    show d.giver.worth ⟨List.replicate d.g.n 0, List.replicate d.g.m (d.g.actFor (List.replicate d.g.n 0) 0)⟩ = _
    rw [giver_sm]
    refine sm_congr fun s hs => ?_
    show _ = mx ((List.replicate d.g.m _).map (wv d d.wants s))
    rw [mx_rep o.m1, getD_rep hs, getD_rep o.m1]
  · unfold restA
    rw [decide_eq_true_iff]
    show d.g.worth ⟨List.replicate d.g.n 0, List.replicate d.g.m (d.g.actFor (List.replicate d.g.n 0) 0)⟩ = mostA d (List.replicate d.g.n 0)
    rw [actor_by (row_rep o.m1)]
    refine sm_congr fun j hj => ?_
    rw [getD_rep hj]
    by_cases c : j = 0
    · subst c
      obtain ⟨h1, h2⟩ := firstBest_ok (wact d (List.replicate d.g.n 0) 0) o.k1
      exact (mx_range (wact d (List.replicate d.g.n 0) 0) h1 h2).symm
    · have z : ∀ a, wact d (List.replicate d.g.n 0) j a = 0 := fun a => by
        rw [wact_sm]
        refine Eq.trans (sm_congr (g := fun _ => 0) fun s hs => ?_) (sm_none _)
        rw [getD_rep hs, if_neg (fun e => c e.symm)]
      rw [mx_range (wact d (List.replicate d.g.n 0) j) a1 (fun x _ => by rw [z, z]; exact Nat.le_refl _)]
theorem rests_some {d : Desk} (o : Ok d) : d.nothing ∈ d.rests := by
  rw [← rests_eq o]
  exact List.mem_filter.mpr ⟨plans_mem.mpr (nothing_ok o), nothing_rest o⟩
end Tw

set_option maxRecDepth 100000
set_option maxHeartbeats 2000000
namespace Tw
open PySem PySem.Spec PyProof.Rows L2
open Krcj (Game Plan)
open Krcm (Desk)

/-! what a call may find and must leave -/
/-- all that stood in G, but at a, is as it was -/
def Kp (G : Hp) (a : Addr) (H H' : Hp) : Prop := ∀ b o, b ≠ a → G b ≠ none → H b = some o → H' b = some o
structure Fr (G : Hp) (L a : Addr) (H : Hp) : Prop where
  dom : ∀ b, G b ≠ none → H b ≠ none
  gL : G L ≠ none
  ga : G a ≠ none
theorem Fr.new {G H H1 : Hp} {L a p : Addr} (f : Fr G L a H) (s : Same H H1) (h : H1 p = none) : G p = none := by
  cases e : G p with
  | none => rfl
  | some o => exact absurd (s.free h) (f.dom p (by rw [e]; exact fun z => by cases z))
def DeskAt (C : Addr) (G : Hp) (L : Addr) (H : Hp) (a : Addr) : Option Desk → Prop
  | none => ∃ (x : Addr) (n m k : Int) (aw ap an ag ad : Addr), H a = some (.ins C x (tf false n m k aw ap an ag ad))
  | some d => ∃ A : Ads, A.a = a ∧ Tab C H A d ∧ Ok d ∧ G A.w = none ∧ A.p ≠ L ∧ A.n ≠ L ∧ A.g ≠ L ∧ A.d ≠ L
theorem DeskAt.same {C : Addr} {G : Hp} {L : Addr} {H H' : Hp} {a : Addr} {x : Option Desk} (t : DeskAt C G L H a x) (s : Same H H') : DeskAt C G L H' a x := by
  cases x with
  | none =>
    obtain ⟨x, n, m, k, aw, ap, an, ag, ad, h⟩ := t
    exact ⟨x, n, m, k, aw, ap, an, ag, ad, s _ _ h⟩
  | some d =>
    obtain ⟨A, e, t, o, r⟩ := t
    exact ⟨A, e, t.same s, o, r⟩
structure After (C : Addr) (G : Hp) (L a : Addr) (H H' : Hp) (p : Addr) (y : Option Desk × Krcj.Ans) : Prop where
  desk : DeskAt C G L H' a y.1
  kp : Kp G a H H'
  ans : H' p = some (.lst ((KrcmNeutral.told y.2).map V.int))
  new : G p = none
/-- a call that only reads, and answers a new list -/
theorem After.read {C : Addr} {G : Hp} {L a : Addr} {H H1 : Hp} {p : Addr} {x : Option Desk} {r : Krcj.Ans} (f : Fr G L a H) (t : DeskAt C G L H a x) (s : Same H H1) (hp : H1 p = none) {l : List V} (e : l = (KrcmNeutral.told r).map V.int) :
    After C G L a H (upd H1 p (.lst l)) p (x, r) := by
  have s2 : Same H (upd H1 p (.lst l)) := same_put s (s.free hp)
  exact ⟨t.same s2, fun b o _ _ h => s2 _ _ h, by rw [upd_same, e], f.new s hp⟩
/-- .. whose new list was made by another def -/
theorem After.made {C : Addr} {G : Hp} {L a : Addr} {H H1 : Hp} {p : Addr} {x : Option Desk} {r : Krcj.Ans} (f : Fr G L a H) (t : DeskAt C G L H a x) (s : Same H H1) (hp : H p = none) {l : List V} (hl : H1 p = some (.lst l)) (e : l = (KrcmNeutral.told r).map V.int) :
    After C G L a H H1 p (x, r) := ⟨t.same s, fun b o _ _ h => s _ _ h, by rw [hl, e], f.new (Same.refl H) hp⟩
/-- an ask: the table and a row in, a list of numbers out -/
def spAsk (C : Addr) (mk : List Nat → Krcm.Call) (Pre : List Nat → Prop) : Sp := fun vs H Q _ => ∃ (G : Hp) (L a : Addr) (d : Desk) (r : Addr) (l : List Nat),
  vs = [.ref a, .ref r] ∧ Fr G L a H ∧ DeskAt C G L H a (some d) ∧ H r = some (.lst (vi l)) ∧ G r ≠ none ∧ r ≠ L ∧ l.length ≤ 255 ∧ Pre l ∧
  ∀ H' p, After C G L a H H' p (Krcm.act (some d) (mk l)) → Q (.ref p) H'
structure Cst (mg : Str → Option Value) : Prop where
  nr : ∃ t, mg "NOT_RIGHT" = some (.int (-22) t)
  nw : ∃ t, mg "NO_SUCH_WAY" = some (.int (-2) t)
  nb : ∃ t, mg "NOT_BEGUN" = some (.int (-11) t)
  be : ∃ t, mg "BEGIN" = some (.int 0 t)
  cb : ∃ t, mg "CANNOT_BE" = some (.int (-33) t)
theorem pe_cst {X : Cx} {x : Str} {pos : Pos} {i : Int} (hg : Gl X x) (h : ∃ t, X.mg x = some (.int i t)) (hd : (x == ("__debug__" : Str)) = false := by decide) : PE X (.Name x pos) (tC (.int i)) := by
  obtain ⟨t, e⟩ := h
  exact pe_glob hg e ⟨t, rfl⟩ hd

section
variable {P : Program} {w : World} {K : PySem.W.Frag} {mg : Str → Option Value} {base : Heap} {C : Addr}

/-! all_within(row, low, high) -/
abbrev sWithin : Stmt := top 27
theorem scWithin : FnScope ["row", "low", "high", "number"] ["row", "low", "high"] (defScope sWithin) := ⟨rfl, rfl, rfl, by decide +kernel, rfl, by decide +kernel, by decide +kernel⟩
def within (l : List Nat) (lo hi : Int) : Bool := l.all fun x => decide (lo ≤ (x : Int)) && decide ((x : Int) ≤ hi)
def spWithin : Sp := fun vs H Q _ => ∃ (a : Addr) (l : List Nat) (lo hi : Int), vs = [.ref a, .int lo, .int hi] ∧ H a = some (.lst (vi l)) ∧ l.length ≤ 255 ∧ ∀ H', Same H H' → Q (.bl (within l lo hi)) H'
theorem ok_within (T : Txt K mg C) (D : Dfn K mg "all_within" sWithin) : Has P w K mg base 1 "all_within" spWithin := by
  refine D.has scWithin ?_ (fun _ _ _ _ _ _ us hl => match us, hl with | [_, _, _], _ => rfl) ?_
  · rintro vs H Q E ⟨a, l, lo, hi, rfl, _⟩
    rfl
  · rintro f cdv A0 outer s0 H vs Q E hr ⟨a, l, lo, hi, rfl, ha, hl, q⟩
    refine ⟨_, pss_one (ps_ret (pe_callB (cr_all rfl) (by rfl) T.mall (by decide +kernel) (pa_cons
      (pe_lc (own := [("number", 3)]) (g := gName 3) (tt := tYes) rfl scWithin.nd (pi_list (pv 0)) (blkOk_by (own := [("number", 3)]) (N := ["row", "low", "high", "number"]) (sc := defScope sWithin) (by decide +kernel))
        (fun _ _ _ _ _ => pg_name (i := 3) scWithin.nd rfl (Or.inl rfl)) (fun _ _ _ _ _ => pts_nil)
        (fun _ _ _ _ _ => pe_and (pe_cmpR op_le (pv 1) (pv 3) (nomark _)) (pe_one (pe_cmpR op_le (pv 3) (pv 2) (nomark _))))) pa_nil))), ?_⟩
    refine ⟨_, rfl, a, rfl, ⟨_, SqL.of ha⟩, fun L hL => ?_⟩
    refine lcM (ys := l) (G := fun (x : Nat) => V.int (x : Int)) (fun x => V.bl (decide (lo ≤ (x : Int)) && decide ((x : Int) ≤ hi))) hL (Nat.lt_of_le_of_lt hl (by decide)) (SqL.of ha) ?_ gName_mono ?_
    · intro x H1 Q1 hx s1 q1
      refine ⟨rfl, _, rfl, _, rfl, _, _, rfl, rfl, _, rfl, ?_⟩
      by_cases c : lo ≤ (x : Int)
      · rw [decide_eq_true c, Bool.true_and] at q1
        rw [decide_eq_true c]
        exact iteT ⟨_, rfl, _, rfl, _, _, rfl, rfl, q1 _ (Same.refl _)⟩
      · rw [decide_eq_false c, Bool.false_and] at q1
        rw [decide_eq_false c]
        exact iteF (q1 _ (Same.refl _))
    · intro H1 s1 hL1
      refine ⟨L, l.map (fun (x : Nat) => decide (lo ≤ (x : Int)) && decide ((x : Int) ≤ hi)), rfl, ?_, ?_⟩
      · rw [List.map_map]
        exact SqL.of hL1
      · rw [List.all_map]
        exact q _ s1

/-! is_right(row, length, high) -/
abbrev sRight : Stmt := top 28
theorem scRight : FnScope ["row", "length", "high"] ["row", "length", "high"] (defScope sRight) := ⟨rfl, rfl, rfl, by decide +kernel, rfl, by decide +kernel, by decide +kernel⟩
def spRight : Sp := fun vs H Q _ => ∃ (a : Addr) (l : List Nat) (n b : Nat) (hi : Int), vs = [.ref a, .int n, .int hi] ∧ hi = (b : Int) - 1 ∧ H a = some (.lst (vi l)) ∧ l.length ≤ 255 ∧ ∀ H', Same H H' → Q (.bl (Krcj.rowOk l n b)) H'
theorem within_lt (l : List Nat) (b : Nat) : within l 0 ((b : Int) - 1) = l.all fun x => decide (x < b) := by
  unfold within
  congr 1
  funext x
  rw [Bool.eq_iff_iff, Bool.and_eq_true, decide_eq_true_iff, decide_eq_true_iff, decide_eq_true_iff]
  omega
theorem ok_right (T : Txt K mg C) (D : Dfn K mg "is_right" sRight) (Gw : Has P w K mg base 1 "all_within" spWithin) : Has P w K mg base 2 "is_right" spRight := by
  refine D.has scRight ?_ (fun _ _ _ _ _ _ us hl => match us, hl with | [_, _, _], _ => rfl) ?_
  · rintro vs H Q E ⟨a, l, n, b, hi, rfl, _⟩
    rfl
  · rintro f cdv A0 outer s0 H vs Q E hr ⟨a, l, n, b, hi, rfl, rfl, ha, hl, q⟩
    refine ⟨_, pss_one (ps_ret (pe_and (pe_cmpR op_eq (pe_callB call_len_seq (by rfl) T.mlen PySem.boot_len (pa_cons (pv 0) pa_nil)) (pv 1) (nomark _))
      (pe_one (pe_h Gw hr (by decide) (by rfl) (pa_cons (pv 0) (pa_cons pe_int (pa_cons (pv 2) pa_nil))))))), ?_⟩
    refine ⟨_, rfl, a, _, rfl, .inl (SqL.of ha), _, rfl, rfl, _, rfl, ?_⟩
    rw [vi_len]
    show if decide (V.int (l.length : Int) = V.int (n : Int)) = true then _ else _
    rw [eq_natV]
    unfold Krcj.rowOk at q
    by_cases c : l.length = n
    · rw [decide_eq_true c]
      rw [show (l.length == n) = true by rw [c]; exact beq_self_eq_true n, Bool.true_and, ← within_lt] at q
      exact iteT ⟨_, rfl, _, rfl, a, l, 0, _, rfl, ha, hl, q⟩
    · rw [decide_eq_false c]
      rw [show (l.length == n) = false from beq_eq_false_iff_ne.mpr c, Bool.false_and] at q
      exact iteF (q _ (Same.refl _))
end
end Tw

set_option maxRecDepth 100000
set_option maxHeartbeats 2000000
namespace Tw
open PySem PySem.Spec PyProof.Rows L2
open Krcj (Game Plan)
open Krcm (Desk)

section
variable {b : Bool} {n m k : Int} {aw ap an ag ad r : Addr}
theorem tf_put_pays : putF "pays" (.ref r) (tf b n m k aw ap an ag ad) = tf b n m k aw r an ag ad := rfl
theorem tf_put_wants : putF "wants" (.ref r) (tf b n m k aw ap an ag ad) = tf b n m k aw ap r ag ad := rfl
theorem tf_put_given : putF "given" (.ref r) (tf b n m k aw ap an ag ad) = tf b n m k aw ap an r ad := rfl
theorem tf_put_done : putF "done" (.ref r) (tf b n m k aw ap an ag ad) = tf b n m k aw ap an ag r := rfl
end
theorem rowOk_iff {l : List Nat} {n b : Nat} : Krcj.rowOk l n b = true ↔ RowOk l n b := by
  unfold Krcj.rowOk RowOk
  rw [Bool.and_eq_true, List.all_eq_true, beq_iff_eq]
  simp only [decide_eq_true_iff]
/-! the specification of the calls that set something -/
theorem act_pays_no {d : Desk} {l : List Nat} (h : Krcj.rowOk l (d.g.n * d.g.k) 10 = false) : Krcm.act (some d) (.pays l) = (some d, Krcj.say (-22)) := by
  simp [Krcm.act, Krcm.edits, Krcj.act, h]
theorem act_pays_yes {d : Desk} {l : List Nat} (h : Krcj.rowOk l (d.g.n * d.g.k) 10 = true) : Krcm.act (some d) (.pays l) = (some { d with g := { d.g with pays := l } }, Krcj.say 0) := by
  simp [Krcm.act, Krcm.edits, Krcj.act, h]
theorem act_wants_no {d : Desk} {l : List Nat} (h : Krcj.rowOk l (d.g.n * d.g.k) 10 = false) : Krcm.act (some d) (.wants l) = (some d, Krcj.say (-22)) := by
  simp [Krcm.act, h]
theorem act_wants_yes {d : Desk} {l : List Nat} (h : Krcj.rowOk l (d.g.n * d.g.k) 10 = true) : Krcm.act (some d) (.wants l) = (some { d with wants := l }, Krcj.say 0) := by
  simp [Krcm.act, h]
theorem act_send_no {d : Desk} {l : List Nat} (h : Krcj.rowOk l d.g.n d.g.m = false) : Krcm.act (some d) (.send l) = (some d, Krcj.say (-22)) := by
  simp [Krcm.act, h]
theorem act_send_yes {d : Desk} {l : List Nat} (h : Krcj.rowOk l d.g.n d.g.m = true) : Krcm.act (some d) (.send l) = (some { d with p := { d.p with send := l } }, Krcj.say 0) := by
  simp [Krcm.act, h]
theorem act_act_no {d : Desk} {l : List Nat} (h : Krcj.rowOk l d.g.m d.g.k = false) : Krcm.act (some d) (.act l) = (some d, Krcj.say (-22)) := by
  simp [Krcm.act, h]
theorem act_act_yes {d : Desk} {l : List Nat} (h : Krcj.rowOk l d.g.m d.g.k = true) : Krcm.act (some d) (.act l) = (some { d with p := { d.p with act := l } }, Krcj.say 0) := by
  simp [Krcm.act, h]
theorem act_weight_no {d : Desk} {s w : Nat} (h : d.g.n ≤ s) : Krcm.act (some d) (.weight s w) = (some d, Krcj.say (-2)) := by
  simp [Krcm.act, Krcm.edits, Krcj.act, h]
theorem act_weight_off {d : Desk} {s w : Nat} (h : ¬ d.g.n ≤ s) (h2 : ¬ (1 ≤ w ∧ w ≤ 9)) : Krcm.act (some d) (.weight s w) = (some d, Krcj.say (-22)) := by
  have c : w = 0 ∨ 9 < w := by omega
  simp [Krcm.act, Krcm.edits, Krcj.act, h, c]
theorem act_weight_yes {d : Desk} {s w : Nat} (h : ¬ d.g.n ≤ s) (h2 : 1 ≤ w ∧ w ≤ 9) : Krcm.act (some d) (.weight s w) = (some { d with g := { d.g with weights := d.g.weights.set s w } }, Krcj.nat (d.g.weight s)) := by
  have c : ¬ (w = 0 ∨ 9 < w) := by omega
  simp [Krcm.act, Krcm.edits, Krcj.act, h, c]

/-- the object alone is stored to -/
theorem After.put {C : Addr} {G : Hp} {L a : Addr} {H H1 : Hp} {p : Addr} {A' : Ads} {d' : Desk} {o : HO} (f : Fr G L a H) (s : Same H H1) (ea : A'.a = a) (t : Tab C (upd H1 a o) A' d') (ok : Ok d') (hw : G A'.w = none) (np : A'.p ≠ L) (nn : A'.n ≠ L) (ng : A'.g ≠ L) (nd : A'.d ≠ L) (hp : upd H1 a o p = none) :
    After C G L a H (upd (upd H1 a o) p (.lst [V.int 0])) p (some d', Krcj.say 0) := by
  have pa : p ≠ a := fun e => by rw [e, upd_same] at hp; cases hp
  have s2 : Same (upd H1 a o) (upd (upd H1 a o) p (.lst [V.int 0])) := same_new hp
  refine ⟨⟨A', ea, t.same s2, ok, hw, np, nn, ng, nd⟩, fun b u ba _ h => s2 _ _ (by rw [upd_ne ba]; exact s _ _ h), ?_, ?_⟩
  · rw [upd_same]
    rfl
  · rw [upd_ne pa] at hp
    exact f.new s hp

section
variable {P : Program} {w : World} {K : PySem.W.Frag} {mg : Str → Option Value} {base : Heap} {C : Addr}

/-! set_pays, set_wants, set_signs, set_acts (table, row) -/
abbrev sPays : Stmt := top 31
abbrev sWants : Stmt := top 32
abbrev sSigns : Stmt := top 33
abbrev sActs : Stmt := top 34
theorem scPays : FnScope ["table", "row"] ["table", "row"] (defScope sPays) := ⟨rfl, rfl, rfl, by decide +kernel, rfl, by decide +kernel, by decide +kernel⟩
theorem scWants : FnScope ["table", "row"] ["table", "row"] (defScope sWants) := ⟨rfl, rfl, rfl, by decide +kernel, rfl, by decide +kernel, by decide +kernel⟩
theorem scSigns : FnScope ["table", "row"] ["table", "row"] (defScope sSigns) := ⟨rfl, rfl, rfl, by decide +kernel, rfl, by decide +kernel, by decide +kernel⟩
theorem scActs : FnScope ["table", "row"] ["table", "row"] (defScope sActs) := ⟨rfl, rfl, rfl, by decide +kernel, rfl, by decide +kernel, by decide +kernel⟩
theorem ok_pays (T : Txt K mg C) (N : Cst mg) (D : Dfn K mg "set_pays" sPays) (Gr : Has P w K mg base 2 "is_right" spRight) : Has P w K mg base 3 "set_pays" (spAsk C .pays fun _ => True) := by
  refine D.has scPays ?_ (fun _ _ _ _ _ _ us hl => match us, hl with | [_, _], _ => rfl) ?_
  · rintro vs H Q E ⟨G, L, a, d, r, l, rfl, _⟩
    rfl
  · rintro f cdv A0 outer s0 H vs Q E hr ⟨G, L, a, d, r, l, rfl, fr, dk, hrow, gr, rL, hl, _, q⟩
    have dk0 := dk
    obtain ⟨A, rfl, t, o, hw, np, nn, ng, nd⟩ := dk
    refine ⟨_, pss_cons (ps_if (pt_not (pt_val (pe_h Gr hr (by decide) (by rfl) (pa_cons (pv 1) (pa_cons (pe_op op_mul (pe_fld (pv 0) rfl) (pe_fld (pv 0) rfl)) (pa_cons pe_int pa_nil))))))
        (pss_one (ps_ret (pe_lst (pa_cons (pe_cst (by rfl) N.nr) pa_nil)))) pss_nil)
      (pss_cons (ps_fld (pv 0) (pv 1) rfl) (pss_one (ps_ret (pe_lst (pa_cons pe_int pa_nil))))), ?_⟩
    have hn := o.n3
    refine ⟨_, rfl, _, rfl, A.a, C, A.x, _, _, rfl, t.ins, T.cl, T.nN, tf_ways, _, rfl, A.a, C, A.x, _, _, rfl, t.ins, T.cl, T.nK, tf_acts, _, _, rfl, rfl, .inl ⟨by omega, by omega⟩, r, l, d.g.n * d.g.k, 10, 9, ?_, rfl, hrow, hl, fun H1 s1 => ⟨_, rfl, ?_⟩⟩
    · show [V.ref r, V.int ((d.g.n : Int) * (d.g.k : Int)), V.int 9] = _
      rw [← Int.natCast_mul]
    · cases c : Krcj.rowOk l (d.g.n * d.g.k) 10 with
      | false =>
        rw [act_pays_no c] at q
        exact iteT ⟨(by show 1 ≤ sizeLine; decide), fun p hp => q _ _ (After.read fr dk0 s1 hp rfl)⟩
      | true =>
        rw [act_pays_yes c] at q
        refine iteF ?_
        have t1 := t.same s1
        refine ⟨_, rfl, _, rfl, A.a, C, A.x, _, rfl, t1.ins, T.cl, T.nP, (by show 9 < 1000; decide), (by show 1 ≤ sizeLine; decide), fun p hp => q _ _ ?_⟩
        have ra : r ≠ A.a := ne_of hrow t.ins (by intro z; cases z)
        have wa : A.w ≠ A.a := ne_of t.w t.ins (by intro z; cases z)
        refine After.put (A' := ⟨A.a, A.x, A.w, r, A.n, A.g, A.d⟩) fr s1 rfl ⟨by rw [upd_same, tf_put_pays], by rw [upd_ne wa]; exact t1.w, by rw [upd_ne ra]; exact s1 _ _ hrow, by rw [upd_ne (ne_of t.n t.ins (by intro z; cases z))]; exact t1.n,
          by rw [upd_ne (ne_of t.g t.ins (by intro z; cases z))]; exact t1.g, by rw [upd_ne (ne_of t.d t.ins (by intro z; cases z))]; exact t1.d, fun e => gr ((congrArg G (show r = A.w from e.symm)).trans hw), t.wn, t.wg, t.wd⟩
          ⟨o.n1, o.n3, o.m1, o.m3, o.k1, o.k3, o.w, o.w9, rowOk_iff.mp c, o.n, o.g, o.d⟩ hw rL nn ng nd hp
theorem ok_wants (T : Txt K mg C) (N : Cst mg) (D : Dfn K mg "set_wants" sWants) (Gr : Has P w K mg base 2 "is_right" spRight) : Has P w K mg base 3 "set_wants" (spAsk C .wants fun _ => True) := by
  refine D.has scWants ?_ (fun _ _ _ _ _ _ us hl => match us, hl with | [_, _], _ => rfl) ?_
  · rintro vs H Q E ⟨G, L, a, d, r, l, rfl, _⟩
    rfl
  · rintro f cdv A0 outer s0 H vs Q E hr ⟨G, L, a, d, r, l, rfl, fr, dk, hrow, gr, rL, hl, _, q⟩
    have dk0 := dk
    obtain ⟨A, rfl, t, o, hw, np, nn, ng, nd⟩ := dk
    refine ⟨_, pss_cons (ps_if (pt_not (pt_val (pe_h Gr hr (by decide) (by rfl) (pa_cons (pv 1) (pa_cons (pe_op op_mul (pe_fld (pv 0) rfl) (pe_fld (pv 0) rfl)) (pa_cons pe_int pa_nil))))))
        (pss_one (ps_ret (pe_lst (pa_cons (pe_cst (by rfl) N.nr) pa_nil)))) pss_nil)
      (pss_cons (ps_fld (pv 0) (pv 1) rfl) (pss_one (ps_ret (pe_lst (pa_cons pe_int pa_nil))))), ?_⟩
    have hn := o.n3
    refine ⟨_, rfl, _, rfl, A.a, C, A.x, _, _, rfl, t.ins, T.cl, T.nN, tf_ways, _, rfl, A.a, C, A.x, _, _, rfl, t.ins, T.cl, T.nK, tf_acts, _, _, rfl, rfl, .inl ⟨by omega, by omega⟩, r, l, d.g.n * d.g.k, 10, 9, ?_, rfl, hrow, hl, fun H1 s1 => ⟨_, rfl, ?_⟩⟩
    · show [V.ref r, V.int ((d.g.n : Int) * (d.g.k : Int)), V.int 9] = _
      rw [← Int.natCast_mul]
    · cases c : Krcj.rowOk l (d.g.n * d.g.k) 10 with
      | false =>
        rw [act_wants_no c] at q
        exact iteT ⟨(by show 1 ≤ sizeLine; decide), fun p hp => q _ _ (After.read fr dk0 s1 hp rfl)⟩
      | true =>
        rw [act_wants_yes c] at q
        refine iteF ?_
        have t1 := t.same s1
        refine ⟨_, rfl, _, rfl, A.a, C, A.x, _, rfl, t1.ins, T.cl, T.nA, (by show 9 < 1000; decide), (by show 1 ≤ sizeLine; decide), fun p hp => q _ _ ?_⟩
        have ra : r ≠ A.a := ne_of hrow t.ins (by intro z; cases z)
        have wa : A.w ≠ A.a := ne_of t.w t.ins (by intro z; cases z)
        refine After.put (A' := ⟨A.a, A.x, A.w, A.p, r, A.g, A.d⟩) fr s1 rfl ⟨by rw [upd_same, tf_put_wants], by rw [upd_ne wa]; exact t1.w, by rw [upd_ne (ne_of t.p t.ins (by intro z; cases z))]; exact t1.p, by rw [upd_ne ra]; exact s1 _ _ hrow,
          by rw [upd_ne (ne_of t.g t.ins (by intro z; cases z))]; exact t1.g, by rw [upd_ne (ne_of t.d t.ins (by intro z; cases z))]; exact t1.d, t.wp, fun e => gr ((congrArg G (show r = A.w from e.symm)).trans hw), t.wg, t.wd⟩
          ⟨o.n1, o.n3, o.m1, o.m3, o.k1, o.k3, o.w, o.w9, o.p, rowOk_iff.mp c, o.g, o.d⟩ hw np rL ng nd hp
theorem ok_signs (T : Txt K mg C) (N : Cst mg) (D : Dfn K mg "set_signs" sSigns) (Gr : Has P w K mg base 2 "is_right" spRight) : Has P w K mg base 3 "set_signs" (spAsk C .send fun _ => True) := by
  refine D.has scSigns ?_ (fun _ _ _ _ _ _ us hl => match us, hl with | [_, _], _ => rfl) ?_
  · rintro vs H Q E ⟨G, L, a, d, r, l, rfl, _⟩
    rfl
  · rintro f cdv A0 outer s0 H vs Q E hr ⟨G, L, a, d, r, l, rfl, fr, dk, hrow, gr, rL, hl, _, q⟩
    have dk0 := dk
    obtain ⟨A, rfl, t, o, hw, np, nn, ng, nd⟩ := dk
    refine ⟨_, pss_cons (ps_if (pt_not (pt_val (pe_h Gr hr (by decide) (by rfl) (pa_cons (pv 1) (pa_cons (pe_fld (pv 0) rfl) (pa_cons (pe_op op_sub (pe_fld (pv 0) rfl) pe_int) pa_nil))))))
        (pss_one (ps_ret (pe_lst (pa_cons (pe_cst (by rfl) N.nr) pa_nil)))) pss_nil)
      (pss_cons (ps_fld (pv 0) (pv 1) rfl) (pss_one (ps_ret (pe_lst (pa_cons pe_int pa_nil))))), ?_⟩
    refine ⟨_, rfl, _, rfl, A.a, C, A.x, _, _, rfl, t.ins, T.cl, T.nN, tf_ways, _, rfl, A.a, C, A.x, _, _, rfl, t.ins, T.cl, T.nM, tf_signs, _, _, rfl, rfl, r, l, d.g.n, d.g.m, _, rfl, rfl, hrow, hl, fun H1 s1 => ⟨_, rfl, ?_⟩⟩
    cases c : Krcj.rowOk l d.g.n d.g.m with
    | false =>
      rw [act_send_no c] at q
      exact iteT ⟨(by show 1 ≤ sizeLine; decide), fun p hp => q _ _ (After.read fr dk0 s1 hp rfl)⟩
    | true =>
      rw [act_send_yes c] at q
      refine iteF ?_
      have t1 := t.same s1
      refine ⟨_, rfl, _, rfl, A.a, C, A.x, _, rfl, t1.ins, T.cl, T.nG, (by show 9 < 1000; decide), (by show 1 ≤ sizeLine; decide), fun p hp => q _ _ ?_⟩
      have ra : r ≠ A.a := ne_of hrow t.ins (by intro z; cases z)
      have wa : A.w ≠ A.a := ne_of t.w t.ins (by intro z; cases z)
      refine After.put (A' := ⟨A.a, A.x, A.w, A.p, A.n, r, A.d⟩) fr s1 rfl ⟨by rw [upd_same, tf_put_given], by rw [upd_ne wa]; exact t1.w, by rw [upd_ne (ne_of t.p t.ins (by intro z; cases z))]; exact t1.p, by rw [upd_ne (ne_of t.n t.ins (by intro z; cases z))]; exact t1.n,
        by rw [upd_ne ra]; exact s1 _ _ hrow, by rw [upd_ne (ne_of t.d t.ins (by intro z; cases z))]; exact t1.d, t.wp, t.wn, fun e => gr ((congrArg G (show r = A.w from e.symm)).trans hw), t.wd⟩
        ⟨o.n1, o.n3, o.m1, o.m3, o.k1, o.k3, o.w, o.w9, o.p, o.n, rowOk_iff.mp c, o.d⟩ hw np nn rL nd hp
theorem ok_acts (T : Txt K mg C) (N : Cst mg) (D : Dfn K mg "set_acts" sActs) (Gr : Has P w K mg base 2 "is_right" spRight) : Has P w K mg base 3 "set_acts" (spAsk C .act fun _ => True) := by
  refine D.has scActs ?_ (fun _ _ _ _ _ _ us hl => match us, hl with | [_, _], _ => rfl) ?_
  · rintro vs H Q E ⟨G, L, a, d, r, l, rfl, _⟩
    rfl
  · rintro f cdv A0 outer s0 H vs Q E hr ⟨G, L, a, d, r, l, rfl, fr, dk, hrow, gr, rL, hl, _, q⟩
    have dk0 := dk
    obtain ⟨A, rfl, t, o, hw, np, nn, ng, nd⟩ := dk
    refine ⟨_, pss_cons (ps_if (pt_not (pt_val (pe_h Gr hr (by decide) (by rfl) (pa_cons (pv 1) (pa_cons (pe_fld (pv 0) rfl) (pa_cons (pe_op op_sub (pe_fld (pv 0) rfl) pe_int) pa_nil))))))
        (pss_one (ps_ret (pe_lst (pa_cons (pe_cst (by rfl) N.nr) pa_nil)))) pss_nil)
      (pss_cons (ps_fld (pv 0) (pv 1) rfl) (pss_one (ps_ret (pe_lst (pa_cons pe_int pa_nil))))), ?_⟩
    refine ⟨_, rfl, _, rfl, A.a, C, A.x, _, _, rfl, t.ins, T.cl, T.nM, tf_signs, _, rfl, A.a, C, A.x, _, _, rfl, t.ins, T.cl, T.nK, tf_acts, _, _, rfl, rfl, r, l, d.g.m, d.g.k, _, rfl, rfl, hrow, hl, fun H1 s1 => ⟨_, rfl, ?_⟩⟩
    cases c : Krcj.rowOk l d.g.m d.g.k with
    | false =>
      rw [act_act_no c] at q
      exact iteT ⟨(by show 1 ≤ sizeLine; decide), fun p hp => q _ _ (After.read fr dk0 s1 hp rfl)⟩
    | true =>
      rw [act_act_yes c] at q
      refine iteF ?_
      have t1 := t.same s1
      refine ⟨_, rfl, _, rfl, A.a, C, A.x, _, rfl, t1.ins, T.cl, T.nD, (by show 9 < 1000; decide), (by show 1 ≤ sizeLine; decide), fun p hp => q _ _ ?_⟩
      have ra : r ≠ A.a := ne_of hrow t.ins (by intro z; cases z)
      have wa : A.w ≠ A.a := ne_of t.w t.ins (by intro z; cases z)
      refine After.put (A' := ⟨A.a, A.x, A.w, A.p, A.n, A.g, r⟩) fr s1 rfl ⟨by rw [upd_same, tf_put_done], by rw [upd_ne wa]; exact t1.w, by rw [upd_ne (ne_of t.p t.ins (by intro z; cases z))]; exact t1.p, by rw [upd_ne (ne_of t.n t.ins (by intro z; cases z))]; exact t1.n,
        by rw [upd_ne (ne_of t.g t.ins (by intro z; cases z))]; exact t1.g, by rw [upd_ne ra]; exact s1 _ _ hrow, t.wp, t.wn, t.wg, fun e => gr ((congrArg G (show r = A.w from e.symm)).trans hw)⟩
        ⟨o.n1, o.n3, o.m1, o.m3, o.k1, o.k3, o.w, o.w9, o.p, o.n, o.g, rowOk_iff.mp c⟩ hw np nn ng rL hp
end
end Tw

set_option maxRecDepth 100000
set_option maxHeartbeats 2000000
/-! The first of the greatest; the best of all plans; who envies whom; both best at once. -/
namespace Tw
open PySem PySem.Spec PyProof.Rows L2
open Krcj (Game Plan)
open Krcm (Desk)

def mstep {T : Type} (f : T → Nat) (b : Option T) (p : T) : Option T := match b with
  | none => some p
  | some q => if f q < f p then some p else some q
theorem most_from {T : Type} (f : T → Nat) : ∀ (l : List T) (q : T), ∃ p, l.foldl (mstep f) (some q) = some p ∧
    ((p = q ∧ ∀ x ∈ l, f x ≤ f q) ∨ ∃ j, l[j]? = some p ∧ f q < f p ∧ (∀ x ∈ l, f x ≤ f p) ∧ ∀ (m : Nat) (x : T), m < j → l[m]? = some x → f x < f p)
  | [], q => ⟨q, rfl, .inl ⟨rfl, fun x hx => by cases hx⟩⟩
  | x :: l, q => by
    rw [List.foldl_cons]
    by_cases c : f q < f x
    · have e : mstep f (some q) x = some x := by
        show (if f q < f x then some x else some q) = some x
        rw [if_pos c]
      rw [e]
      obtain ⟨p, h1, h2⟩ := most_from f l x
      refine ⟨p, h1, .inr ?_⟩
      rcases h2 with ⟨rfl, h2⟩ | ⟨j, h2, h3, h4, h5⟩
      · refine ⟨0, rfl, c, fun y hy => ?_, fun m y hm => by omega⟩
        rcases List.mem_cons.mp hy with rfl | hy
        · exact Nat.le_refl _
        · exact h2 y hy
      · refine ⟨j + 1, h2, by omega, fun y hy => ?_, fun m y hm hy => ?_⟩
        · rcases List.mem_cons.mp hy with rfl | hy
          · omega
          · exact h4 y hy
        · cases m with
          | zero =>
            obtain rfl : x = y := Option.some.inj hy
            exact h3
          | succ m => exact h5 m y (by omega) hy
    · have e : mstep f (some q) x = some q := by
        show (if f q < f x then some x else some q) = some q
        rw [if_neg c]
      rw [e]
      obtain ⟨p, h1, h2⟩ := most_from f l q
      refine ⟨p, h1, ?_⟩
      rcases h2 with ⟨rfl, h2⟩ | ⟨j, h2, h3, h4, h5⟩
      · refine .inl ⟨rfl, fun y hy => ?_⟩
        rcases List.mem_cons.mp hy with rfl | hy
        · omega
        · exact h2 y hy
      · refine .inr ⟨j + 1, h2, h3, fun y hy => ?_, fun m y hm hy => ?_⟩
        · rcases List.mem_cons.mp hy with rfl | hy
          · omega
          · exact h4 y hy
        · cases m with
          | zero =>
            obtain rfl : x = y := Option.some.inj hy
            omega
          | succ m => exact h5 m y (by omega) hy
/-- p is the first of the greatest, its place is j -/
structure First {T : Type} (f : T → Nat) (l : List T) (j : Nat) (p : T) : Prop where
  at' : l[j]? = some p
  ge : ∀ x ∈ l, f x ≤ f p
  first : ∀ (m : Nat) (x : T), m < j → l[m]? = some x → f x < f p
theorem first_most {T : Type} (f : T → Nat) {l : List T} (h : l ≠ []) : ∃ j p, l.foldl (mstep f) none = some p ∧ First f l j p := by
  cases l with
  | nil => exact absurd rfl h
  | cons x l =>
    obtain ⟨p, h1, h2⟩ := most_from f l x
    have h1' : (x :: l).foldl (mstep f) none = some p := h1
    rcases h2 with ⟨rfl, h2⟩ | ⟨j, h2, h3, h4, h5⟩
    · refine ⟨0, p, h1', rfl, fun y hy => ?_, fun m y hm => by omega⟩
      rcases List.mem_cons.mp hy with rfl | hy
      · exact Nat.le_refl _
      · exact h2 y hy
    · refine ⟨j + 1, p, h1', h2, fun y hy => ?_, fun m y hm hy => ?_⟩
      · rcases List.mem_cons.mp hy with rfl | hy
        · omega
        · exact h4 y hy
      · cases m with
        | zero =>
          obtain rfl : x = y := Option.some.inj hy
          exact h3
        | succ m => exact h5 m y (by omega) hy
theorem First.mem {T : Type} {f : T → Nat} {l : List T} {j : Nat} {p : T} (h : First f l j p) : p ∈ l := List.mem_of_getElem? h.at'
theorem First.mx {T : Type} {f : T → Nat} {l : List T} {j : Nat} {p : T} (h : First f l j p) : mx (l.map f) = f p := by
  have h1 : f p ≤ Tw.mx (l.map f) := mx_ge (List.mem_map.mpr ⟨p, h.mem, rfl⟩)
  obtain ⟨x, hx, e⟩ := List.mem_map.mp (mx_mem (l := l.map f) (by intro z; have h2 := h.mem; rw [List.map_eq_nil_iff] at z; rw [z] at h2; cases h2))
  have h2 := h.ge x hx
  omega
theorem most_eq (l : List Plan) (f : Plan → Nat) : Krcm.most l f = l.foldl (mstep f) none := by
  unfold Krcm.most
  congr 1
  funext b p
  cases b with
  | none => rfl
  | some q => rfl
theorem best_def (g : Game) : g.best = (g.plans.foldl (mstep g.worth) none).getD ⟨[], []⟩ := by
  unfold Game.best
  congr 2
  funext b p
  cases b with
  | none => rfl
  | some q => rfl
theorem fb_go (f : Nat → Nat) : ∀ (l : List Nat) (b : Option Nat), l.foldl (fun (b : Option (Nat × Nat)) x => match b with
      | none => some (x, f x)
      | some y => if y.2 < f x then some (x, f x) else some y) (b.map fun x => (x, f x)) = (l.foldl (mstep f) b).map fun x => (x, f x)
  | [], b => rfl
  | x :: l, b => by
    rw [List.foldl_cons, List.foldl_cons, ← fb_go f l (mstep f b x)]
    congr 1
    cases b with
    | none => rfl
    | some q =>
      show (if f q < f x then some (x, f x) else some (q, f q)) = Option.map (fun x => (x, f x)) (if f q < f x then some x else some q)
      by_cases c : f q < f x
      · rw [if_pos c, if_pos c]
        rfl
      · rw [if_neg c, if_neg c]
        rfl
theorem firstBest_first {n : Nat} (f : Nat → Nat) (hn : 1 ≤ n) : First f (List.range n) (Krcj.firstBest (List.range n) f) (Krcj.firstBest (List.range n) f) := by
  obtain ⟨j, p, h1, h2⟩ := first_most f (l := List.range n) (by intro z; have := congrArg List.length z; rw [List.length_range] at this; simp at this; omega)
  have e : Krcj.firstBest (List.range n) f = p := by
    have h := fb_go f (List.range n) none
    rw [h1] at h
    exact congrArg (fun z => (Option.map Prod.fst z).getD 0) h
  have ej : j = p := by
    have h := h2.at'
    have hj : j < n := by
      have := (List.getElem?_eq_some_iff.mp h).1
      rw [List.length_range] at this
      exact this
    rw [List.getElem?_range hj] at h
    exact Option.some.inj h
  rw [e]
  rw [ej] at h2
  exact h2

/-! honesty -/
theorem honest_send {d : Desk} (h : d.g.n ≤ d.g.m) : RowOk (List.range d.g.n) d.g.n d.g.m := ⟨List.length_range, fun x hx => Nat.lt_of_lt_of_le (List.mem_range.mp hx) h⟩
theorem honest_ok {d : Desk} (o : Ok d) (h : d.g.n ≤ d.g.m) : RowOk d.honest.send d.g.n d.g.m ∧ RowOk d.honest.act d.g.m d.g.k := ⟨honest_send h, acts_ok o _⟩
theorem Ok.w1 {d : Desk} (o : Ok d) {i : Nat} (hi : i < d.g.n) : 1 ≤ d.g.weight i := by
  have hl : i < d.g.weights.length := by rw [o.w]; exact hi
  unfold Game.weight
  rw [List.getD_eq_getElem?_getD, List.getElem?_eq_getElem hl]
  exact (o.w9 _ (List.getElem_mem hl)).1
/-- way s envies way t, by what is done -/
def env (d : Desk) (dn : List Nat) (s t : Nat) : Bool := decide (wv d d.wants s (dn.getD t 0) > wv d d.wants s (dn.getD s 0))
theorem env_pay {d : Desk} (o : Ok d) {dn : List Nat} {s t : Nat} (hs : s < d.g.n) : env d dn s t = decide (d.giver.pay s (dn.getD s 0) < d.giver.pay s (dn.getD t 0)) := by
  unfold env
  rw [decide_eq_decide]
  have h1 := o.w1 hs
  show d.g.weight s * d.giver.pay s (dn.getD s 0) < d.g.weight s * d.giver.pay s (dn.getD t 0) ↔ _
  constructor
  · exact fun h => Nat.lt_of_mul_lt_mul_left h
  · exact fun h => Nat.mul_lt_mul_of_pos_left h h1
/-- the twos by the first of the ways below i -/
def twos (d : Desk) (dn : List Nat) (i : Nat) : List (Nat × Nat) := (List.range i).flatMap fun s => ((List.range d.g.n).filter fun t => env d dn s t).map fun t => (s, t)
theorem twos_succ (d : Desk) (dn : List Nat) (i : Nat) : twos d dn (i + 1) = twos d dn i ++ ((List.range d.g.n).filter fun t => env d dn i t).map fun t => (i, t) := by
  unfold twos
  rw [List.range_succ, List.flatMap_append, List.flatMap_cons, List.flatMap_nil, List.append_nil]
theorem twos_envies {d : Desk} (o : Ok d) : twos d d.honest.act d.g.n = d.envies := by
  unfold twos Desk.envies
  have h : ∀ l : List Nat, (∀ s ∈ l, s < d.g.n) → (l.flatMap fun s => ((List.range d.g.n).filter fun t => env d d.honest.act s t).map fun t => (s, t)) =
      l.flatMap fun s => ((List.range d.g.n).filter fun t => decide (d.giver.pay s (d.honest.act.getD s 0) < d.giver.pay s (d.honest.act.getD t 0))).map fun t => (s, t) := by
    intro l
    induction l with
    | nil => intro _; rfl
    | cons x l ih =>
      intro hl
      rw [List.flatMap_cons, List.flatMap_cons, ih fun s hs => hl s (List.mem_cons_of_mem _ hs)]
      congr 2
      refine List.filter_congr fun t _ => ?_
      exact env_pay o (hl x List.mem_cons_self)
  exact h _ fun s hs => List.mem_range.mp hs
theorem filt_len {n : Nat} (B : Nat → Bool) : ((List.range n).filter B).length ≤ n := by
  have := List.length_filter_le B (List.range n)
  rw [List.length_range] at this
  exact this
theorem twos_len {d : Desk} (o : Ok d) (dn : List Nat) : ∀ i, (twos d dn i).length ≤ i * 3
  | 0 => Nat.le_refl 0
  | i + 1 => by
    rw [twos_succ, List.length_append, List.length_map]
    have h1 := twos_len o dn i
    have h2 := filt_len (n := d.g.n) fun t => env d dn i t
    have h3 := o.n3
    omega

/-! the best of all -/
theorem best_first (g : Game) (h : g.plans ≠ []) : g.best ∈ g.plans ∧ ∀ p ∈ g.plans, g.worth p ≤ g.worth g.best := by
  obtain ⟨j, p, h1, h2⟩ := first_most g.worth h
  have e : g.best = p := by
    rw [best_def, h1]
    rfl
  rw [e]
  exact ⟨h2.mem, h2.ge⟩
theorem plans_some {d : Desk} (o : Ok d) : d.g.plans ≠ [] := by
  intro z
  have h := plans_mem.mpr (nothing_ok o)
  rw [z] at h
  cases h
theorem best_eq {d : Desk} (o : Ok d) : mx ((Krcj.rows d.g.m d.g.n).map (mostA d)) = d.g.worth d.g.best := by
  obtain ⟨h1, h2⟩ := best_first d.g (plans_some o)
  obtain ⟨rg, rd⟩ := plans_mem.mp h1
  have a1 : d.g.worth d.g.best ≤ mostA d d.g.best.send := actor_le rg rd
  have a2 : mostA d d.g.best.send ≤ mx ((Krcj.rows d.g.m d.g.n).map (mostA d)) := mx_ge (List.mem_map.mpr ⟨_, (rows_mem d.g.m).mpr rg, rfl⟩)
  obtain ⟨s, hs, e⟩ := List.mem_map.mp (mx_mem (l := (Krcj.rows d.g.m d.g.n).map (mostA d)) (by intro z; rw [List.map_eq_nil_iff] at z; have h := rows_some (n := d.g.n) o.m1; rw [z] at h; cases h))
  have rs := (rows_mem d.g.m).mp hs
  have a3 := h2 ⟨s, d.g.bestActs s⟩ (plans_mem.mpr ⟨rs, acts_ok o s⟩)
  rw [actor_best o rs, e] at a3
  omega
theorem rests_le {d : Desk} (o : Ok d) : mx (d.rests.map d.g.worth) ≤ d.g.worth d.g.best := by
  obtain ⟨p, hp, e⟩ := List.mem_map.mp (mx_mem (l := d.rests.map d.g.worth) (by intro z; rw [List.map_eq_nil_iff] at z; have h := rests_some o; rw [z] at h; cases h))
  rw [← e]
  exact (best_first d.g (plans_some o)).2 p (List.mem_filter.mp hp).1

/-! both best at once -/
theorem agree_eq (l : List Plan) (f g : Plan → Nat) : (l.any fun p => l.all fun q => decide (f q ≤ f p) && decide (g q ≤ g p)) = l.any fun p => decide (f p = mx (l.map f)) && decide (g p = mx (l.map g)) := by
  rw [Bool.eq_iff_iff, List.any_eq_true, List.any_eq_true]
  have top : ∀ (f : Plan → Nat) (p : Plan), p ∈ l → (∀ q ∈ l, f q ≤ f p) → f p = mx (l.map f) := fun f p hp h => by
    obtain ⟨q, hq, e⟩ := List.mem_map.mp (mx_mem (l := l.map f) (by intro z; rw [List.map_eq_nil_iff] at z; rw [z] at hp; cases hp))
    have h1 := h q hq
    have h2 : f p ≤ mx (l.map f) := mx_ge (List.mem_map.mpr ⟨p, hp, rfl⟩)
    omega
  constructor
  · rintro ⟨p, hp, h⟩
    rw [List.all_eq_true] at h
    refine ⟨p, hp, ?_⟩
    rw [Bool.and_eq_true, decide_eq_true_iff, decide_eq_true_iff]
    refine ⟨top f p hp fun q hq => ?_, top g p hp fun q hq => ?_⟩
    · have h1 := h q hq
      rw [Bool.and_eq_true, decide_eq_true_iff] at h1
      exact h1.1
    · have h1 := h q hq
      rw [Bool.and_eq_true, decide_eq_true_iff, decide_eq_true_iff] at h1
      exact h1.2
  · rintro ⟨p, hp, h⟩
    rw [Bool.and_eq_true, decide_eq_true_iff, decide_eq_true_iff] at h
    refine ⟨p, hp, ?_⟩
    rw [List.all_eq_true]
    intro q hq
    rw [Bool.and_eq_true, decide_eq_true_iff, decide_eq_true_iff, h.1, h.2]
    exact ⟨mx_ge (List.mem_map.mpr ⟨q, hq, rfl⟩), mx_ge (List.mem_map.mpr ⟨q, hq, rfl⟩)⟩
end Tw

set_option maxRecDepth 100000
set_option maxHeartbeats 2000000
/-! first_best_act, nothing_plan, honest_plan, envies, envious_twos. -/
namespace Tw
open PySem PySem.Spec PyProof.Rows L2
open Krcj (Game Plan)
open Krcm (Desk)

/-- xs.index(max(xs)): the place of the first of the greatest -/
theorem idx_first {T : Type} {f : T → Nat} {l : List T} {j : Nat} {p : T} (h : First f l j p) {K : PySem.W.Frag} {H : Hp} {a : Addr} (hs : H a = some (.lst (vi (l.map f)))) {Q : VK} (q : Q (.int (j : Nat)) H) : rIndex K (.ref a) [.int (mx (l.map f) : Nat)] H Q := by
  refine ⟨a, _, _, j, V.int (f p : Nat), rfl, rfl, SqL.of hs, rfl, ?_, ?_, ?_, ?_, q⟩
  · rw [List.all_eq_true]
    intro v hv
    unfold vi at hv
    obtain ⟨x, _, rfl⟩ := List.mem_map.mp hv
    rfl
  · unfold vi
    rw [List.getElem?_map, List.getElem?_map, h.at']
    rfl
  · rw [h.mx]
    show ((f p : Nat) : Int) == ((f p : Nat) : Int)
    exact beq_self_eq_true _
  · intro m z hm hz
    unfold vi at hz
    rw [List.getElem?_map, List.getElem?_map] at hz
    cases e : l[m]? with
    | none =>
      rw [e] at hz
      cases hz
    | some x =>
      rw [e] at hz
      obtain rfl : V.int (f x : Nat) = z := Option.some.inj hz
      have h1 := h.first m x hm e
      rw [h.mx]
      show (((f x : Nat) : Int) == ((f p : Nat) : Int)) = false
      exact beq_eq_false_iff_ne.mpr (by omega)
theorem repL (n : Nat) (x : Nat) : (List.replicate ((n : Nat) : Int).toNat [V.int (x : Nat)]).flatten = vi (List.replicate n x) := by
  rw [Int.toNat_natCast]
  induction n with
  | zero => rfl
  | succ n ih =>
    rw [List.replicate_succ, List.flatten_cons, ih, List.replicate_succ]
    rfl

section
variable {P : Program} {w : World} {K : PySem.W.Frag} {mg : Str → Option Value} {base : Heap} {C : Addr}

/-! first_best_act(table, given, sign) -/
abbrev sFirst : Stmt := top 16
theorem scFirst : FnScope ["table", "given", "sign", "worths", "act"] ["table", "given", "sign"] (defScope sFirst) := ⟨rfl, rfl, rfl, by decide +kernel, rfl, by decide +kernel, by decide +kernel⟩
def spFirst (C : Addr) : Sp := fun vs H Q _ => ∃ (A : Ads) (d : Desk) (ag : Addr) (g : List Nat) (j : Nat),
  vs = [.ref A.a, .ref ag, .int j] ∧ Tab C H A d ∧ Ok d ∧ H ag = some (.lst (vi g)) ∧ RowOk g d.g.n d.g.m ∧ ∀ H', Same H H' → Q (.int (d.g.actFor g j : Nat)) H'
theorem ok_first (T : Txt K mg C) (D : Dfn K mg "first_best_act" sFirst) (Gw : Has P w K mg base 2 "worth_of_act" (spWorthA C)) : Has P w K mg base 3 "first_best_act" (spFirst C) := by
  refine D.has scFirst ?_ (fun _ _ _ _ _ _ us hl => match us, hl with | [_, _, _], _ => rfl) ?_
  · rintro vs H Q E ⟨A, d, ag, g, j, rfl, _⟩
    rfl
  · rintro f cdv A0 outer s0 H vs Q E hr ⟨A, d, ag, g, j, rfl, t, o, hg, rg, q⟩
    refine ⟨_, pss_cons (ps_setLc (i := 3) (own := [("act", 4)]) (g := gName 4) (tt := tYes) rfl scFirst.nd rfl rfl (sw_true rfl rfl rfl (by decide +kernel)) (pi_range1 (by rfl) T.mrange (pa_cons (pe_fld (pv 0) rfl) pa_nil))
        (blkOk_by (own := [("act", 4)]) (N := ["table", "given", "sign", "worths", "act"]) (sc := defScope sFirst) (by decide +kernel))
        (fun _ _ _ _ _ => pg_name (i := 4) scFirst.nd rfl (Or.inl rfl)) (fun _ _ _ _ _ => pts_nil)
        (fun _ _ _ _ _ => pe_h Gw hr (by decide) (by rfl) (pa_cons (pv 0) (pa_cons (pv 1) (pa_cons (pv 2) (pa_cons (pv 4) pa_nil))))))
      (pss_one (ps_ret (pe_bm PySem.F.plainAttrs_list PySem.F.slot_list_index PySem.F.type_list_index mt_index (pv 3) (pa_cons (pe_callB (cr_max rfl) (by rfl) T.mmax (by decide +kernel) (pa_cons (pv 3) pa_nil)) pa_nil)))), ?_⟩
    have hk := o.k3
    refine ⟨_, rfl, A.a, C, A.x, _, _, rfl, t.ins, T.cl, T.nK, tf_acts, _, rfl, by omega, by omega, fun L hL => ?_⟩
    refine lcR (n := d.g.k) (fun a => V.int (wact d g j a : Nat)) hL (Nat.lt_of_le_of_lt hk (by decide)) ?_ gName_mono ?_
    · intro a H1 Q1 ha s1 q1
      refine ⟨rfl, _, rfl, _, rfl, _, rfl, _, rfl, A, d, ag, g, j, a, ?_, t.same s1, o, s1 _ _ hg, rg, ha, fun H2 s2 => q1 _ s2⟩
      simp
    · intro H1 s1 hL1
      have hL2 : H1 L = some (.lst (vi ((List.range d.g.k).map (wact d g j)))) := by
        rw [vi_map]
        exact hL1
      refine ⟨_, rfl, .inl ⟨rfl, _, SqL.of hL1⟩, _, rfl, L, ((List.range d.g.k).map (wact d g j)).map (fun (x : Nat) => (x : Int)), rfl, ?_, ?_, ?_⟩
      · rw [List.map_map, List.map_map]
        exact SqL.of hL1
      · rw [List.length_map, List.length_map, List.length_range]
        exact o.k1
      · intro z hz hle
        have e := mx_int hz hle
        subst e
        exact idx_first (firstBest_first (wact d g j) o.k1) hL2 (q _ s1)

/-! nothing_plan(table) -/
abbrev sNothing : Stmt := top 17
theorem scNothing : FnScope ["table", "given"] ["table"] (defScope sNothing) := ⟨rfl, rfl, rfl, by decide +kernel, rfl, by decide +kernel, by decide +kernel⟩
def spNothing (C : Addr) : Sp := fun vs H Q _ => ∃ (A : Ads) (d : Desk), vs = [.ref A.a] ∧ Tab C H A d ∧ Ok d ∧ ∀ (H' : Hp) (t : Addr), Same H H' → PlanAt H' t d.nothing → Q (.ref t) H'
theorem ok_nothing (T : Txt K mg C) (D : Dfn K mg "nothing_plan" sNothing) (Gf : Has P w K mg base 3 "first_best_act" (spFirst C)) : Has P w K mg base 4 "nothing_plan" (spNothing C) := by
  refine D.has scNothing ?_ (fun _ _ _ _ _ _ us hl => match us, hl with | [_], _ => rfl) ?_
  · rintro vs H Q E ⟨A, d, rfl, _⟩
    rfl
  · rintro f cdv A0 outer s0 H vs Q E hr ⟨A, d, rfl, t, o, q⟩
    refine ⟨_, pss_cons (ps_set (i := 1) scNothing.nd rfl (Or.inl rfl) (pe_op op_rep (pe_lst (pa_cons pe_int pa_nil)) (pe_fld (pv 0) rfl)))
      (pss_one (ps_ret (pe_tup (pa_cons (pv 1) (pa_cons (pe_op op_rep (pe_lst (pa_cons (pe_h Gf hr (by decide) (by rfl) (pa_cons (pv 0) (pa_cons (pv 1) (pa_cons pe_int pa_nil)))) pa_nil)) (pe_fld (pv 0) rfl)) pa_nil))))), ?_⟩
    have hn := o.n3
    have hm := o.m3
    have one : 1 ≤ sizeLine := by decide
    have big : 3 ≤ sizeLine := by decide
    refine ⟨one, fun u1 hu1 => ?_⟩
    have s1 : Same H (upd H u1 (.lst [V.int (0 : Nat)])) := same_new hu1
    have l1 : upd H u1 (.lst [V.int (0 : Nat)]) u1 = some (.lst [V.int (0 : Nat)]) := upd_same
    have t1 := t.same s1
    refine ⟨_, rfl, A.a, C, A.x, _, _, rfl, t1.ins, T.cl, T.nN, tf_ways, u1, _, _, rfl, rfl, l1, by omega, by omega, ?_, fun g1 hg1 => ?_⟩
    · show 1 * ((d.g.n : Nat) : Int).toNat ≤ sizeLine
      rw [Nat.one_mul, Int.toNat_natCast]
      omega
    rw [repL]
    have s2 := same_new (o := .lst (vi (List.replicate d.g.n 0))) hg1
    have l2 : upd (upd H u1 (.lst [V.int (0 : Nat)])) g1 (.lst (vi (List.replicate d.g.n 0))) g1 = some (.lst (vi (List.replicate d.g.n 0))) := upd_same
    have s12 := s1.trans s2
    generalize upd (upd H u1 (.lst [V.int (0 : Nat)])) g1 (.lst (vi (List.replicate d.g.n 0))) = H2 at s2 l2 s12 ⊢
    refine ⟨_, rfl, _, rfl, _, rfl, A, d, g1, List.replicate d.g.n 0, 0, rfl, t.same s12, o, l2, row_rep o.m1, fun H3 s3 => ?_⟩
    refine ⟨one, fun u2 hu2 => ?_⟩
    have s4 : Same H3 (upd H3 u2 (.lst [V.int (d.g.actFor (List.replicate d.g.n 0) 0 : Nat)])) := same_new hu2
    have l4 : upd H3 u2 (.lst [V.int (d.g.actFor (List.replicate d.g.n 0) 0 : Nat)]) u2 = some (.lst [V.int (d.g.actFor (List.replicate d.g.n 0) 0 : Nat)]) := upd_same
    have s14 := (s12.trans s3).trans s4
    have lg := s4 _ _ (s3 _ _ l2)
    generalize upd H3 u2 (.lst [V.int (d.g.actFor (List.replicate d.g.n 0) 0 : Nat)]) = H4 at s4 l4 s14 lg ⊢
    refine ⟨_, rfl, A.a, C, A.x, _, _, rfl, (t.same s14).ins, T.cl, T.nM, tf_signs, u2, _, _, rfl, rfl, l4, by omega, by omega, ?_, fun d1 hd1 => ?_⟩
    · show 1 * ((d.g.m : Nat) : Int).toNat ≤ sizeLine
      rw [Nat.one_mul, Int.toNat_natCast]
      omega
    rw [repL]
    have s5 := same_new (o := .lst (vi (List.replicate d.g.m (d.g.actFor (List.replicate d.g.n 0) 0)))) hd1
    have l5 : upd H4 d1 (.lst (vi (List.replicate d.g.m (d.g.actFor (List.replicate d.g.n 0) 0)))) d1 = some (.lst (vi (List.replicate d.g.m (d.g.actFor (List.replicate d.g.n 0) 0)))) := upd_same
    have lg5 := s5 _ _ lg
    have s15 := s14.trans s5
    generalize upd H4 d1 (.lst (vi (List.replicate d.g.m (d.g.actFor (List.replicate d.g.n 0) 0)))) = H5 at s5 l5 lg5 s15 ⊢
    refine ⟨(by show 2 ≤ sizeLine; decide), fun tp htp => ?_⟩
    have s6 : Same H5 (upd H5 tp (.tup [.ref g1, .ref d1])) := same_new htp
    exact q _ tp (s15.trans s6) ⟨g1, d1, upd_same, s6 _ _ lg5, s6 _ _ l5⟩

/-! honest_plan(table) -/
abbrev sHonest : Stmt := top 18
theorem scHonest : FnScope ["table", "given", "sign"] ["table"] (defScope sHonest) := ⟨rfl, rfl, rfl, by decide +kernel, rfl, by decide +kernel, by decide +kernel⟩
def spHonest (C : Addr) : Sp := fun vs H Q _ => ∃ (A : Ads) (d : Desk), vs = [.ref A.a] ∧ Tab C H A d ∧ Ok d ∧ d.g.n ≤ d.g.m ∧ ∀ (H' : Hp) (t : Addr), Same H H' → PlanAt H' t d.honest → Q (.ref t) H'
theorem rgV_vi (n : Nat) : rgV 0 ((n : Nat) : Int) = vi (List.range n) := by
  unfold rgV vi
  rw [show (((n : Nat) : Int) - 0).toNat = n by omega]
  refine List.map_congr_left fun i _ => ?_
  rw [Int.zero_add]
theorem ok_honest (T : Txt K mg C) (D : Dfn K mg "honest_plan" sHonest) (Gf : Has P w K mg base 3 "first_best_act" (spFirst C)) : Has P w K mg base 4 "honest_plan" (spHonest C) := by
  refine D.has scHonest ?_ (fun _ _ _ _ _ _ us hl => match us, hl with | [_], _ => rfl) ?_
  · rintro vs H Q E ⟨A, d, rfl, _⟩
    rfl
  · rintro f cdv A0 outer s0 H vs Q E hr ⟨A, d, rfl, t, o, hnm, q⟩
    refine ⟨_, pss_cons (ps_set (i := 1) scHonest.nd rfl (Or.inr rfl) (pe_listRg rfl (by rfl) T.mlist (prg_1 (by rfl) T.mrange (pe_fld (pv 0) rfl))))
      (pss_one (ps_ret (pe_tup (pa_cons (pv 1) (pa_cons
        (pe_lc (own := [("sign", 2)]) (g := gName 2) (tt := tYes) rfl scHonest.nd (pi_range1 (by rfl) T.mrange (pa_cons (pe_fld (pv 0) rfl) pa_nil)) (blkOk_by (own := [("sign", 2)]) (N := ["table", "given", "sign"]) (sc := defScope sHonest) (by decide +kernel))
          (fun _ _ _ _ _ => pg_name (i := 2) scHonest.nd rfl (Or.inl rfl)) (fun _ _ _ _ _ => pts_nil)
          (fun _ _ _ _ _ => pe_h Gf hr (by decide) (by rfl) (pa_cons (pv 0) (pa_cons (pv 1) (pa_cons (pv 2) pa_nil))))) pa_nil))))), ?_⟩
    have hn := o.n3
    have hm := o.m3
    refine ⟨_, rfl, A.a, C, A.x, _, _, rfl, t.ins, T.cl, T.nN, tf_ways, _, rfl, RgOk.of_le (by omega) (by omega) (by omega) (by omega), fun g1 hg1 => ?_⟩
    rw [rgV_vi]
    have s1 : Same H (upd H g1 (.lst (vi (List.range d.g.n)))) := same_new hg1
    have l1 : upd H g1 (.lst (vi (List.range d.g.n))) g1 = some (.lst (vi (List.range d.g.n))) := upd_same
    generalize upd H g1 (.lst (vi (List.range d.g.n))) = H1 at s1 l1 ⊢
    refine ⟨_, rfl, _, rfl, A.a, C, A.x, _, _, rfl, (t.same s1).ins, T.cl, T.nM, tf_signs, _, rfl, by omega, by omega, fun L hL => ?_⟩
    refine lcR (n := d.g.m) (fun j => V.int (d.g.actFor (List.range d.g.n) j : Nat)) hL (Nat.lt_of_le_of_lt hm (by decide)) ?_ gName_mono ?_
    · intro j H2 Q2 hj s2 q2
      refine ⟨rfl, _, rfl, _, rfl, _, rfl, A, d, g1, List.range d.g.n, j, ?_, t.same (s1.trans s2), o, s2 _ _ l1, honest_send hnm, fun H3 s3 => q2 _ s3⟩
      simp
    · intro H2 s2 hL2
      refine ⟨(by show 2 ≤ sizeLine; decide), fun tp htp => ?_⟩
      have s3 : Same H2 (upd H2 tp (.tup [.ref g1, .ref L])) := same_new htp
      refine q _ tp ((s1.trans s2).trans s3) ⟨g1, L, upd_same, s3 _ _ (s2 _ _ l1), s3 _ _ ?_⟩
      show H2 L = some (.lst (vi ((List.range d.g.m).map (d.g.actFor (List.range d.g.n)))))
      rw [vi_map]
      exact hL2

/-! envies(table, done, way, other) -/
abbrev sEnv : Stmt := top 19
theorem scEnv : FnScope ["table", "done", "way", "other"] ["table", "done", "way", "other"] (defScope sEnv) := ⟨rfl, rfl, rfl, by decide +kernel, rfl, by decide +kernel, by decide +kernel⟩
def spEnv (C : Addr) : Sp := fun vs H Q _ => ∃ (A : Ads) (d : Desk) (ad : Addr) (dn : List Nat) (s t : Nat), vs = [.ref A.a, .ref ad, .int s, .int t] ∧ Tab C H A d ∧ Ok d ∧ H ad = some (.lst (vi dn)) ∧ RowOk dn d.g.m d.g.k ∧ d.g.n ≤ d.g.m ∧ s < d.g.n ∧ t < d.g.n ∧
  Q (.bl (env d dn s t)) H
theorem ok_env (T : Txt K mg C) (D : Dfn K mg "envies" sEnv) (Gw : Has P w K mg base 1 "weighted" (spWeighted C)) : Has P w K mg base 2 "envies" (spEnv C) := by
  refine D.has scEnv ?_ (fun _ _ _ _ _ _ us hl => match us, hl with | [_, _, _, _], _ => rfl) ?_
  · rintro vs H Q E ⟨A, d, ad, dn, s, t, rfl, _⟩
    rfl
  · rintro f cdv A0 outer s0 H vs Q E hr ⟨A, d, ad, dn, s, u, rfl, t, o, hd, rd, hnm, hs, hu, q⟩
    refine ⟨_, pss_one (ps_ret (pe_cmpR op_gt (pe_h Gw hr (by decide) (by rfl) (pa_cons (pv 0) (pa_cons (pe_fld (pv 0) rfl) (pa_cons (pv 2) (pa_cons (pe_ix ix_list (pv 1) (pv 3) (fun _ _ => rfl)) pa_nil)))))
      (pe_h Gw hr (by decide) (by rfl) (pa_cons (pv 0) (pa_cons (pe_fld (pv 0) rfl) (pa_cons (pv 2) (pa_cons (pe_ix ix_list (pv 1) (pv 2) (fun _ _ => rfl)) pa_nil))))) (nomark _))), ?_⟩
    have hs' : s < d.g.m := by omega
    have hu' : u < d.g.m := by omega
    refine ⟨_, rfl, _, rfl, A.a, C, A.x, _, _, rfl, t.ins, T.cl, T.nA, tf_wants, _, rfl, _, rfl, _, rfl, ad, _, _, _, rfl, rfl, SqL.of hd, atI_nat (rd.at hu'), A, d, A.n, d.wants, s, _, rfl, t, o, t.n, o.n, hs, rd.get hu', ?_⟩
    refine ⟨_, rfl, _, rfl, A.a, C, A.x, _, _, rfl, t.ins, T.cl, T.nA, tf_wants, _, rfl, _, rfl, _, rfl, ad, _, _, _, rfl, rfl, SqL.of hd, atI_nat (rd.at hs'), A, d, A.n, d.wants, s, _, rfl, t, o, t.n, o.n, hs, rd.get hs', ?_⟩
    refine ⟨_, _, rfl, rfl, ?_⟩
    have e : decide (((wv d d.wants s (dn.getD s 0) : Nat) : Int) < ((wv d d.wants s (dn.getD u 0) : Nat) : Int)) = env d dn s u := by
      unfold env
      rw [decide_eq_decide]
      omega
    rw [← e] at q
    exact q
end
end Tw

set_option maxRecDepth 100000
set_option maxHeartbeats 2000000
/-! envious_twos; both_worths, whole_plan, first_with_most. -/
namespace Tw
open PySem PySem.Spec PyProof.Rows L2
open Krcj (Game Plan)
open Krcm (Desk)

def TwoAt (H : Hp) (z : Addr × (Nat × Nat)) : Prop := H z.1 = some (.tup [.int (z.2.1 : Nat), .int (z.2.2 : Nat)])
structure TwosAt (H : Hp) (f : Addr) (zs : List (Addr × (Nat × Nat))) : Prop where
  lst : H f = some (.lst (zs.map fun z => V.ref z.1))
  two : ∀ z ∈ zs, TwoAt H z

section
variable {P : Program} {w : World} {K : PySem.W.Frag} {mg : Str → Option Value} {base : Heap} {C : Addr}
abbrev sTwos : Stmt := top 20
theorem scTwos : FnScope ["table", "done", "twos", "way", "other"] ["table"] (defScope sTwos) := ⟨rfl, rfl, rfl, by decide +kernel, rfl, by decide +kernel, by decide +kernel⟩
def spTwos (C : Addr) : Sp := fun vs H Q _ => ∃ (A : Ads) (d : Desk), vs = [.ref A.a] ∧ Tab C H A d ∧ Ok d ∧ d.g.n ≤ d.g.m ∧
  ∀ (H' : Hp) (f : Addr) (zs : List (Addr × (Nat × Nat))), Same H H' → TwosAt H' f zs → zs.map (·.2) = d.envies → Q (.ref f) H'
theorem ok_twos (T : Txt K mg C) (D : Dfn K mg "envious_twos" sTwos) (Gh : Has P w K mg base 4 "honest_plan" (spHonest C)) (Ge : Has P w K mg base 2 "envies" (spEnv C)) : Has P w K mg base 5 "envious_twos" (spTwos C) := by
  refine D.has scTwos ?_ (fun _ _ _ _ _ _ us hl => match us, hl with | [_], _ => rfl) ?_
  · rintro vs H Q E ⟨A, d, rfl, _⟩
    rfl
  · rintro f cdv A0 outer s0 H vs Q E hr ⟨A, d, rfl, t, o, hnm, q⟩
    refine ⟨_, pss_cons (ps_set (i := 1) scTwos.nd rfl (Or.inl rfl) (pe_ix ix_tup (pe_h Gh hr (by decide) (by rfl) (pa_cons (pv 0) pa_nil)) pe_int (fun _ _ => rfl)))
      (pss_cons (ps_set (i := 2) scTwos.nd rfl (Or.inl rfl) (pe_lst pa_nil))
      (pss_cons (ps_for PassesOwn.never rfl (pi_range1 (by rfl) T.mrange (pa_cons (pe_fld (pv 0) rfl) pa_nil)) (pg_name (i := 3) scTwos.nd rfl (Or.inl rfl))
        (pss_one (ps_for PassesOwn.never rfl (pi_range1 (by rfl) T.mrange (pa_cons (pe_fld (pv 0) rfl) pa_nil)) (pg_name (i := 4) scTwos.nd rfl (Or.inl rfl))
          (pss_one (ps_if (pt_val (pe_h Ge hr (by decide) (by rfl) (pa_cons (pv 0) (pa_cons (pv 1) (pa_cons (pv 3) (pa_cons (pv 4) pa_nil))))))
            (pss_one (ps_expr (pe_bm PySem.F.plainAttrs_list PySem.F.slot_list_append PySem.F.type_list_append mt_append (pv 2) (pa_cons (pe_tup (pa_cons (pv 3) (pa_cons (pv 4) pa_nil))) pa_nil))))
            pss_nil)))))
      (pss_one (ps_ret (pv 2))))), ?_⟩
    have hn := o.n3
    obtain ⟨rg, rd⟩ := honest_ok o hnm
    refine ⟨_, rfl, A, d, rfl, t, o, hnm, fun H1 tp s1 pa => ?_⟩
    obtain ⟨ag, ad, h1, h2, h3⟩ := pa
    refine ⟨tp, _, _, _, rfl, rfl, SqT.of h1, at_of (j := 1) rfl rfl, Nat.zero_le _, fun F hF => ?_⟩
    have s2 : Same H1 (upd H1 F (.lst [])) := same_new hF
    have hFl : upd H1 F (.lst []) F = some (.lst []) := upd_same
    have dF : ad ≠ F := ne_of_none h3 hF
    have hFH : H F = none := s1.free hF
    have h3' := s2 _ _ h3
    have sH : Same H (upd H1 F (.lst [])) := s1.trans s2
    generalize upd H1 F (.lst []) = H2 at s2 hFl h3' sH ⊢
    refine ⟨_, rfl, A.a, C, A.x, _, _, rfl, (t.same sH).ins, T.cl, T.nN, tf_ways, _, rfl, by omega, by omega, ?_⟩
    refine for_range (lo := 0) (n := d.g.n) (fun i σ H' => ∃ (zs : List (Addr × (Nat × Nat))) (v3 v4 : Option V), σ = [some (.ref A.a), some (.ref ad), some (.ref F), v3, v4] ∧ Same H H' ∧ H' ad = some (.lst (vi d.honest.act)) ∧
        H' F = some (.lst (zs.map fun z => V.ref z.1)) ∧ (∀ z ∈ zs, TwoAt H' z ∧ z.1 ≠ F) ∧ zs.map (·.2) = twos d d.honest.act i)
      ⟨[], none, none, rfl, sH, h3', hFl, (fun z hz => by cases hz), rfl⟩ ?_ ?_
    · rintro i σ H3 hi ⟨zs, v3, v4, rfl, s3, hd3, hF3, tz, ez⟩
      refine ⟨_, rfl, A.a, C, A.x, _, _, rfl, (t.same s3).ins, T.cl, T.nN, tf_ways, _, rfl, by omega, by omega, ?_⟩
      refine for_range (lo := 0) (n := d.g.n) (fun j σ H' => ∃ (us : List (Addr × (Nat × Nat))) (v4 : Option V), σ = [some (.ref A.a), some (.ref ad), some (.ref F), some (.int ((0 : Int) + (i : Nat))), v4] ∧ Same H H' ∧ H' ad = some (.lst (vi d.honest.act)) ∧
          H' F = some (.lst (us.map fun z => V.ref z.1)) ∧ (∀ z ∈ us, TwoAt H' z ∧ z.1 ≠ F) ∧ us.map (·.2) = twos d d.honest.act i ++ ((List.range j).filter fun t => env d d.honest.act i t).map fun t => (i, t))
        ⟨zs, v4, rfl, s3, hd3, hF3, tz, by rw [ez]; simp⟩ ?_ ?_
      · rintro j σ H4 hj ⟨us, v4, rfl, s4, hd4, hF4, tu, eu⟩
        have el : (List.range (j + 1)).filter (fun t => env d d.honest.act i t) = (List.range j).filter (fun t => env d d.honest.act i t) ++ if env d d.honest.act i j = true then [j] else [] := by
          rw [List.range_succ, List.filter_append]
          congr 1
          cases hb : env d d.honest.act i j with
          | true => simp [hb]
          | false => simp [hb]
        refine ⟨_, rfl, _, rfl, _, rfl, _, rfl, A, d, ad, d.honest.act, i, j, ?_, t.same s4, o, hd4, rd, hnm, hi, hj, _, rfl, ?_⟩
        · simp
        show if env d d.honest.act i j = true then _ else _
        cases hb : env d d.honest.act i j with
        | false =>
          refine iteF ⟨us, _, rfl, s4, hd4, hF4, tu, ?_⟩
          rw [el, hb, eu]
          simp
        | true =>
          refine iteT ?_
          have hsz : us.length < sizeLine := by
            have h1 := congrArg List.length eu
            rw [List.length_map, List.length_append, List.length_map] at h1
            have h5 := twos_len o d.honest.act i
            have h6 := filt_len (n := j) fun t => env d d.honest.act i t
            have h7 : 12 < sizeLine := by decide
            omega
          refine ⟨_, rfl, .inl ⟨rfl, _, SqL.of hF4⟩, _, rfl, _, rfl, (by show 2 ≤ sizeLine; decide), fun tq htq => ?_⟩
          have qF : F ≠ tq := ne_of_none hF4 htq
          have s5 : Same H4 (upd H4 tq (.tup [.int ((0 : Int) + (i : Nat)), .int ((0 : Int) + (j : Nat))])) := same_new htq
          have l5 : upd H4 tq (.tup [.int ((0 : Int) + (i : Nat)), .int ((0 : Int) + (j : Nat))]) tq = some (.tup [.int (i : Nat), .int (j : Nat)]) := by
            rw [upd_same, Int.zero_add, Int.zero_add]
          generalize upd H4 tq (.tup [.int ((0 : Int) + (i : Nat)), .int ((0 : Int) + (j : Nat))]) = H5 at s5 l5 ⊢
          refine ⟨F, _, _, rfl, rfl, s5 _ _ hF4, (by rw [List.length_map]; exact hsz), ?_⟩
          refine ⟨us ++ [(tq, (i, j))], _, rfl, ?_, ?_, ?_, ?_, ?_⟩
          · intro c u hc
            rw [upd_ne (ne_of_none hc hFH)]
            exact s5 _ _ (s4 _ _ hc)
          · rw [upd_ne dF]
            exact s5 _ _ hd4
          · rw [upd_same, List.map_append]
            rfl
          · intro z hz
            rcases List.mem_append.mp hz with hz | hz
            · refine ⟨?_, (tu z hz).2⟩
              unfold TwoAt
              rw [upd_ne (tu z hz).2]
              exact s5 _ _ (tu z hz).1
            · have e : z = (tq, (i, j)) := by simpa using hz
              subst e
              refine ⟨?_, fun z => qF z.symm⟩
              unfold TwoAt
              rw [upd_ne (fun z => qF z.symm)]
              exact l5
          · rw [List.map_append, eu, el, hb, if_pos rfl, List.map_append, List.append_assoc]
            rfl
      · rintro σ H4 ⟨us, v4, rfl, s4, hd4, hF4, tu, eu⟩
        exact ⟨us, _, _, rfl, s4, hd4, hF4, tu, by rw [eu, twos_succ]⟩
    · rintro σ H3 ⟨zs, v3, v4, rfl, s3, hd3, hF3, tz, ez⟩
      exact ⟨_, rfl, q H3 F zs s3 ⟨hF3, fun z hz => (tz z hz).1⟩ (by rw [ez, twos_envies o])⟩

/-! both_worths(table, plan) -/
abbrev sBoth : Stmt := top 35
theorem scBoth : FnScope ["table", "plan", "to_actor", "to_giver"] ["table", "plan"] (defScope sBoth) := ⟨rfl, rfl, rfl, by decide +kernel, rfl, by decide +kernel, by decide +kernel⟩
/-- of a table and a plan a new list -/
def spList (C : Addr) (r : Desk → Plan → List Nat) : Sp := fun vs H Q _ => ∃ (A : Ads) (d : Desk) (tp : Addr) (p : Plan),
  vs = [.ref A.a, .ref tp] ∧ Tab C H A d ∧ Ok d ∧ PlanAt H tp p ∧ RowOk p.send d.g.n d.g.m ∧ RowOk p.act d.g.m d.g.k ∧
  ∀ (H' : Hp) (l : Addr), Same H H' → H l = none → H' l = some (.lst (vi (r d p))) → Q (.ref l) H'
def both (d : Desk) (p : Plan) : List Nat := [d.g.worth p, d.giver.worth p]
def whole (d : Desk) (p : Plan) : List Nat := both d p ++ p.send ++ p.act
theorem ok_both (T : Txt K mg C) (D : Dfn K mg "both_worths" sBoth) (Gw : Has P w K mg base 2 "worth_by" (spWorthBy C)) : Has P w K mg base 3 "both_worths" (spList C both) := by
  refine D.has scBoth ?_ (fun _ _ _ _ _ _ us hl => match us, hl with | [_, _], _ => rfl) ?_
  · rintro vs H Q E ⟨A, d, tp, p, rfl, _⟩
    rfl
  · rintro f cdv A0 outer s0 H vs Q E hr ⟨A, d, tp, p, rfl, t, o, pa, rg, rd, q⟩
    refine ⟨_, pss_cons (ps_set (i := 2) scBoth.nd rfl (Or.inl rfl) (pe_h Gw hr (by decide) (by rfl) (pa_cons (pv 0) (pa_cons (pe_fld (pv 0) rfl) (pa_cons (pe_ix ix_tup (pv 1) pe_int (fun _ _ => rfl)) (pa_cons (pe_ix ix_tup (pv 1) pe_int (fun _ _ => rfl)) pa_nil))))))
      (pss_cons (ps_set (i := 3) scBoth.nd rfl (Or.inl rfl) (pe_h Gw hr (by decide) (by rfl) (pa_cons (pv 0) (pa_cons (pe_fld (pv 0) rfl) (pa_cons (pe_ix ix_tup (pv 1) pe_int (fun _ _ => rfl)) (pa_cons (pe_ix ix_tup (pv 1) pe_int (fun _ _ => rfl)) pa_nil))))))
      (pss_one (ps_ret (pe_lst (pa_cons (pv 2) (pa_cons (pv 3) pa_nil)))))), ?_⟩
    have pa0 := pa
    obtain ⟨ag, ad, h1, h2, h3⟩ := pa
    refine ⟨_, rfl, _, rfl, A.a, C, A.x, _, _, rfl, t.ins, T.cl, T.nP, tf_pays, _, rfl, tp, _, _, _, rfl, rfl, SqT.of h1, at_of (j := 0) rfl rfl, _, rfl, tp, _, _, _, rfl, rfl, SqT.of h1, at_of (j := 1) rfl rfl,
      A, d, A.p, d.g.pays, ag, p.send, ad, p.act, rfl, t, o, t.p, o.p, h2, rg, h3, rd, fun H1 s1 => ?_⟩
    have t1 := t.same s1
    refine ⟨_, rfl, _, rfl, A.a, C, A.x, _, _, rfl, t1.ins, T.cl, T.nA, tf_wants, _, rfl, tp, _, _, _, rfl, rfl, SqT.of (s1 _ _ h1), at_of (j := 0) rfl rfl, _, rfl, tp, _, _, _, rfl, rfl, SqT.of (s1 _ _ h1), at_of (j := 1) rfl rfl,
      A, d, A.n, d.wants, ag, p.send, ad, p.act, rfl, t1, o, t1.n, o.n, s1 _ _ h2, rg, s1 _ _ h3, rd, fun H2 s2 => ?_⟩
    refine ⟨_, rfl, _, rfl, (by show 2 ≤ sizeLine; decide), fun l hl => ?_⟩
    have s3 : Same H2 (upd H2 l (.lst [V.int ((Krcm.other d.g d.g.pays).worth ⟨p.send, p.act⟩ : Nat), V.int ((Krcm.other d.g d.wants).worth ⟨p.send, p.act⟩ : Nat)])) := same_new hl
    exact q _ l ((s1.trans s2).trans s3) ((s1.trans s2).free hl) upd_same

/-! whole_plan(table, plan) -/
abbrev sWhole : Stmt := top 36
theorem scWhole : FnScope ["table", "plan"] ["table", "plan"] (defScope sWhole) := ⟨rfl, rfl, rfl, by decide +kernel, rfl, by decide +kernel, by decide +kernel⟩
theorem ok_whole (T : Txt K mg C) (D : Dfn K mg "whole_plan" sWhole) (Gb : Has P w K mg base 3 "both_worths" (spList C both)) : Has P w K mg base 4 "whole_plan" (spList C whole) := by
  refine D.has scWhole ?_ (fun _ _ _ _ _ _ us hl => match us, hl with | [_, _], _ => rfl) ?_
  · rintro vs H Q E ⟨A, d, tp, p, rfl, _⟩
    rfl
  · rintro f cdv A0 outer s0 H vs Q E hr ⟨A, d, tp, p, rfl, t, o, pa, rg, rd, q⟩
    refine ⟨_, pss_one (ps_ret (pe_op op_cat (pe_op op_cat (pe_h Gb hr (by decide) (by rfl) (pa_cons (pv 0) (pa_cons (pv 1) pa_nil))) (pe_ix ix_tup (pv 1) pe_int (fun _ _ => rfl))) (pe_ix ix_tup (pv 1) pe_int (fun _ _ => rfl)))), ?_⟩
    have hn := o.n3
    have hm := o.m3
    have lg := rg.1
    have ld := rd.1
    have big : 20 ≤ sizeLine := by decide
    refine ⟨_, rfl, _, rfl, A, d, tp, p, rfl, t, o, pa, rg, rd, fun H1 b s1 hb hb1 => ?_⟩
    obtain ⟨ag, ad, h1, h2, h3⟩ := pa
    refine ⟨_, rfl, tp, _, _, _, rfl, rfl, SqT.of (s1 _ _ h1), at_of (j := 0) rfl rfl, b, ag, _, _, rfl, rfl, hb1, s1 _ _ h2, ?_, fun c hc => ?_⟩
    · rw [vi_len, vi_len]
      show 2 + p.send.length ≤ sizeLine
      omega
    rw [← vi_app]
    have s2 : Same H1 (upd H1 c (.lst (vi (both d p ++ p.send)))) := same_new hc
    have l2 : upd H1 c (.lst (vi (both d p ++ p.send))) c = some (.lst (vi (both d p ++ p.send))) := upd_same
    generalize upd H1 c (.lst (vi (both d p ++ p.send))) = H2 at s2 l2 ⊢
    refine ⟨_, rfl, tp, _, _, _, rfl, rfl, SqT.of (s2 _ _ (s1 _ _ h1)), at_of (j := 1) rfl rfl, c, ad, _, _, rfl, rfl, l2, s2 _ _ (s1 _ _ h3), ?_, fun e he => ?_⟩
    · rw [vi_len, vi_len, List.length_append]
      show 2 + p.send.length + p.act.length ≤ sizeLine
      omega
    rw [← vi_app]
    have s3 : Same H2 (upd H2 e (.lst (vi (both d p ++ p.send ++ p.act)))) := same_new he
    exact q _ e ((s1.trans s2).trans s3) ((s1.trans s2).free he) upd_same

/-! first_with_most(found, counts) -/
abbrev sFWM : Stmt := top 37
theorem scFWM : FnScope ["found", "counts"] ["found", "counts"] (defScope sFWM) := ⟨rfl, rfl, rfl, by decide +kernel, rfl, by decide +kernel, by decide +kernel⟩
def spFWM : Sp := fun vs H Q _ => ∃ (F c : Addr) (ts : List (Addr × Plan)) (k : Addr × Plan → Nat) (j : Nat) (y : Addr × Plan), vs = [.ref F, .ref c] ∧ H F = some (.lst (ts.map fun q => V.ref q.1)) ∧ H c = some (.lst (vi (ts.map k))) ∧ First k ts j y ∧ Q (.ref y.1) H
theorem ok_fwm (T : Txt K mg C) (D : Dfn K mg "first_with_most" sFWM) : Has P w K mg base 1 "first_with_most" spFWM := by
  refine D.has scFWM ?_ (fun _ _ _ _ _ _ us hl => match us, hl with | [_, _], _ => rfl) ?_
  · rintro vs H Q E ⟨F, c, ts, k, j, y, rfl, _⟩
    rfl
  · rintro f cdv A0 outer s0 H vs Q E hr ⟨F, c, ts, k, j, y, rfl, hF, hc, hf, q⟩
    refine ⟨_, pss_one (ps_ret (pe_ix ix_list (pv 0) (pe_bm PySem.F.plainAttrs_list PySem.F.slot_list_index PySem.F.type_list_index mt_index (pv 1) (pa_cons (pe_callB (cr_max rfl) (by rfl) T.mmax (by decide +kernel) (pa_cons (pv 1) pa_nil)) pa_nil)) (fun _ _ => rfl))), ?_⟩
    refine ⟨_, rfl, _, rfl, .inl ⟨rfl, _, SqL.of hc⟩, _, rfl, c, (ts.map k).map (fun (x : Nat) => (x : Int)), rfl, ?_, ?_, ?_⟩
    · have e : ((ts.map k).map (fun (x : Nat) => (x : Int))).map V.int = vi (ts.map k) := by
        rw [vi_ints]
        rfl
      rw [e]
      exact SqL.of hc
    · rw [List.length_map, List.length_map]
      exact List.length_pos_of_mem hf.mem
    · intro z hz hle
      have e := mx_int hz hle
      subst e
      show rIndex K (.ref c) [.int (mx (ts.map k) : Nat)] H fun y H2 => rIxL K (.ref F) y H2 Q
      refine idx_first hf hc ?_
      refine ⟨F, _, _, V.ref y.1, rfl, rfl, SqL.of hF, atI_nat ?_, q⟩
      rw [List.getElem?_map, hf.at']
      rfl
end
end Tw

set_option maxRecDepth 100000
set_option maxHeartbeats 2000000
namespace Tw
open PySem PySem.Spec PyProof.Rows L2
open Krcj (Game Plan)
open Krcm (Desk)

theorem sum_getD : ∀ (l : List Nat), sm l.length (fun i => l.getD i 0) = l.sum := by
  intro l
  unfold sm
  rw [foldl_sum, Nat.zero_add]
  congr 1
  exact (row_range (n := l.length) (b := l.sum + 1) ⟨rfl, fun x hx => Nat.lt_succ_of_le (by
    induction l with
    | nil => cases hx
    | cons y l ih =>
      rw [List.sum_cons]
      rcases List.mem_cons.mp hx with rfl | hx
      · omega
      · have := ih hx
        omega)⟩).symm
theorem all_sum {d : Desk} (o : Ok d) : d.g.all = d.g.weights.sum := by
  rw [← sum_getD, o.w]
  rfl

section
variable {P : Program} {w : World} {K : PySem.W.Frag} {mg : Str → Option Value} {base : Heap} {C : Addr}

/-! set_weight(table, row) -/
abbrev sWeight : Stmt := top 30
theorem scWeight : FnScope ["table", "row", "way", "before"] ["table", "row"] (defScope sWeight) := ⟨rfl, rfl, rfl, by decide +kernel, rfl, by decide +kernel, by decide +kernel⟩
theorem ok_weight (T : Txt K mg C) (N : Cst mg) (D : Dfn K mg "set_weight" sWeight) (Gw : Has P w K mg base 1 "all_within" spWithin) : Has P w K mg base 2 "set_weight" (spAsk C (fun l => .weight (l.getD 0 0) (l.getD 1 0)) fun l => l.length = 2) := by
  refine D.has scWeight ?_ (fun _ _ _ _ _ _ us hl => match us, hl with | [_, _], _ => rfl) ?_
  · rintro vs H Q E ⟨G, L, a, d, r, l, rfl, _⟩
    rfl
  · rintro f cdv A0 outer s0 H vs Q E hr ⟨G, L, a, d, r, l, rfl, fr, dk, hrow, gr, rL, hl, h2, q⟩
    have dk0 := dk
    obtain ⟨A, rfl, t, o, hw, np, nn, ng, nd⟩ := dk
    refine ⟨_, pss_cons (ps_set (i := 2) scWeight.nd rfl (Or.inl rfl) (pe_ix ix_list (pv 1) pe_int (fun _ _ => rfl)))
      (pss_cons (ps_if (pt_cmpR op_ge (pv 2) (pe_fld (pv 0) rfl) (nomark _)) (pss_one (ps_ret (pe_lst (pa_cons (pe_cst (by rfl) N.nw) pa_nil)))) pss_nil)
      (pss_cons (ps_if (pt_not (pt_val (pe_h Gw hr (by decide) (by rfl) (pa_cons (pe_lst (pa_cons (pe_ix ix_list (pv 1) pe_int (fun _ _ => rfl)) pa_nil)) (pa_cons pe_int (pa_cons pe_int pa_nil))))))
        (pss_one (ps_ret (pe_lst (pa_cons (pe_cst (by rfl) N.nr) pa_nil)))) pss_nil)
      (pss_cons (ps_set (i := 3) scWeight.nd rfl (Or.inl rfl) (pe_ix ix_list (pe_fld (pv 0) rfl) (pv 2) (fun _ _ => rfl)))
      (pss_cons (ps_asg (pe_ix ix_list (pv 1) pe_int (fun _ _ => rfl)) (pg_sub (pe_fld (pv 0) rfl) (pv 2) set_list))
      (pss_one (ps_ret (pe_lst (pa_cons (pv 3) pa_nil)))))))), ?_⟩
    have r0 : (vi l)[0]? = some (V.int (l.getD 0 0 : Nat)) := vi_at (by omega)
    have r1 : (vi l)[1]? = some (V.int (l.getD 1 0 : Nat)) := vi_at (by omega)
    have q : ∀ H' p, After C G L A.a H H' p (Krcm.act (some d) (.weight (l.getD 0 0) (l.getD 1 0))) → Q (.ref p) H' := q
    generalize l.getD 0 0 = s at r0 q
    generalize l.getD 1 0 = x at r1 q
    refine ⟨_, rfl, r, _, _, _, rfl, rfl, SqL.of hrow, at_of (j := 0) rfl r0, _, rfl, _, rfl, A.a, C, A.x, _, _, rfl, t.ins, T.cl, T.nN, tf_ways, _, _, rfl, rfl, _, rfl, ?_⟩
    show if decide (((s : Nat) : Int) ≥ ((d.g.n : Nat) : Int)) = true then _ else _
    by_cases c : d.g.n ≤ s
    · rw [act_weight_no c] at q
      rw [decide_eq_true (by omega)]
      exact iteT ⟨(by show 1 ≤ sizeLine; decide), fun p hp => q _ _ (After.read fr dk0 (Same.refl _) hp rfl)⟩
    · rw [decide_eq_false (by omega)]
      refine iteF ?_
      refine ⟨_, rfl, r, _, _, _, rfl, rfl, SqL.of hrow, at_of (j := 1) rfl r1, (by show 1 ≤ sizeLine; decide), fun u hu => ?_⟩
      have s1 : Same H (upd H u (.lst [V.int (x : Nat)])) := same_new hu
      refine ⟨u, [x], 1, 9, rfl, upd_same, (by show 1 ≤ 255; decide), fun H1 s2 => ⟨_, rfl, ?_⟩⟩
      have s3 := s1.trans s2
      have t1 := t.same s3
      show if (!within [x] 1 9) = true then _ else _
      by_cases c2 : 1 ≤ x ∧ x ≤ 9
      · rw [act_weight_yes c c2] at q
        have hb : within [x] 1 9 = true := by
          unfold within
          rw [List.all_cons, List.all_nil, Bool.and_true, Bool.and_eq_true, decide_eq_true_iff, decide_eq_true_iff]
          omega
        rw [hb]
        refine iteF ?_
        have hs : s < d.g.n := by omega
        have hws : (vi d.g.weights)[s]? = some (.int (d.g.weight s : Nat)) := vi_at (by rw [o.w]; exact hs)
        have hix : ixN (vi d.g.weights).length ((s : Nat) : Int) = some s := by
          unfold ixN
          rw [vi_len, o.w, if_pos (by omega), if_pos (by omega)]
          rfl
        refine ⟨_, rfl, A.a, C, A.x, _, _, rfl, t1.ins, T.cl, T.nW, tf_weights, _, rfl, A.w, _, _, _, rfl, rfl, SqL.of t1.w, atI_nat hws,
          _, rfl, r, _, _, _, rfl, rfl, SqL.of (s3 _ _ hrow), at_of (j := 1) rfl r1, _, rfl, A.a, C, A.x, _, _, rfl, t1.ins, T.cl, T.nW, tf_weights, _, rfl, A.w, _, _, s, rfl, rfl, t1.w, hix, _, rfl, (by show 1 ≤ sizeLine; decide), fun p hp => q _ _ ?_⟩
        have es : (vi d.g.weights).set s (V.int (x : Nat)) = vi (d.g.weights.set s x) := by
          unfold vi
          rw [List.map_set]
        rw [es] at hp ⊢
        have wa : A.a ≠ A.w := ne_of t.ins t.w (by intro z; cases z)
        have pw : p ≠ A.w := fun e => by rw [e, upd_same] at hp; cases hp
        have s4 : Same (upd H1 A.w (.lst (vi (d.g.weights.set s x)))) (upd (upd H1 A.w (.lst (vi (d.g.weights.set s x)))) p (.lst [V.int (d.g.weight s : Nat)])) := same_new hp
        have tt : Tab C (upd H1 A.w (.lst (vi (d.g.weights.set s x)))) A { d with g := { d.g with weights := d.g.weights.set s x } } :=
          ⟨by rw [upd_ne wa]; exact t1.ins, upd_same, by rw [upd_ne (fun e => t.wp e.symm)]; exact t1.p, by rw [upd_ne (fun e => t.wn e.symm)]; exact t1.n, by rw [upd_ne (fun e => t.wg e.symm)]; exact t1.g, by rw [upd_ne (fun e => t.wd e.symm)]; exact t1.d, t.wp, t.wn, t.wg, t.wd⟩
        have oo : Ok { d with g := { d.g with weights := d.g.weights.set s x } } := by
          refine ⟨o.n1, o.n3, o.m1, o.m3, o.k1, o.k3, ?_, fun y hy => ?_, o.p, o.n, o.g, o.d⟩
          · show (d.g.weights.set s x).length = d.g.n
            rw [List.length_set]
            exact o.w
          · rcases List.mem_or_eq_of_mem_set hy with hy | rfl
            · exact o.w9 y hy
            · exact c2
        refine ⟨⟨A, rfl, tt.same s4, oo, hw, np, nn, ng, nd⟩, fun b u2 ba gb hb => s4 _ _ ?_, ?_, ?_⟩
        · rw [upd_ne (fun e => gb (by rw [e]; exact hw))]
          exact s3 _ _ hb
        · rw [upd_same]
          rfl
        · rw [upd_ne pw] at hp
          exact fr.new s3 hp
      · rw [act_weight_off c c2] at q
        have hb : within [x] 1 9 = false := by
          unfold within
          rw [List.all_cons, List.all_nil, Bool.and_true, Bool.eq_false_iff]
          intro e
          rw [Bool.and_eq_true, decide_eq_true_iff, decide_eq_true_iff] at e
          omega
        rw [hb]
        exact iteT ⟨(by show 1 ≤ sizeLine; decide), fun p hp => q _ _ (After.read fr dk0 s3 hp rfl)⟩

/-! tell_worth, tell_rest, tell_better, tell_rests (table, row) -/
abbrev sTWorth : Stmt := top 38
abbrev sTRest : Stmt := top 39
abbrev sTBetter : Stmt := top 40
abbrev sTRests : Stmt := top 41
theorem scTWorth : FnScope ["table", "row"] ["table", "row"] (defScope sTWorth) := ⟨rfl, rfl, rfl, by decide +kernel, rfl, by decide +kernel, by decide +kernel⟩
theorem scTRest : FnScope ["table", "row"] ["table", "row"] (defScope sTRest) := ⟨rfl, rfl, rfl, by decide +kernel, rfl, by decide +kernel, by decide +kernel⟩
theorem scTBetter : FnScope ["table", "row"] ["table", "row"] (defScope sTBetter) := ⟨rfl, rfl, rfl, by decide +kernel, rfl, by decide +kernel, by decide +kernel⟩
theorem scTRests : FnScope ["table", "row", "found", "plan"] ["table", "row"] (defScope sTRests) := ⟨rfl, rfl, rfl, by decide +kernel, rfl, by decide +kernel, by decide +kernel⟩
theorem ok_tworth (T : Txt K mg C) (D : Dfn K mg "tell_worth" sTWorth) (Gb : Has P w K mg base 3 "both_worths" (spList C both)) : Has P w K mg base 4 "tell_worth" (spAsk C (fun _ => .worth) fun _ => True) := by
  refine D.has scTWorth ?_ (fun _ _ _ _ _ _ us hl => match us, hl with | [_, _], _ => rfl) ?_
  · rintro vs H Q E ⟨G, L, a, d, r, l, rfl, _⟩
    rfl
  · rintro f cdv A0 outer s0 H vs Q E hr ⟨G, L, a, d, r, l, rfl, fr, dk, hrow, gr, rL, hl, _, q⟩
    have dk0 := dk
    obtain ⟨A, rfl, t, o, hw, np, nn, ng, nd⟩ := dk
    refine ⟨_, pss_one (ps_ret (pe_op op_cat (pe_h Gb hr (by decide) (by rfl) (pa_cons (pv 0) (pa_cons (pe_tup (pa_cons (pe_fld (pv 0) rfl) (pa_cons (pe_fld (pv 0) rfl) pa_nil))) pa_nil)))
      (pe_lst (pa_cons (pe_callB (cr_sum rfl) (by rfl) T.msum (by decide +kernel) (pa_cons (pe_fld (pv 0) rfl) pa_nil)) pa_nil)))), ?_⟩
    refine ⟨_, rfl, _, rfl, A.a, C, A.x, _, _, rfl, t.ins, T.cl, T.nG, tf_given, _, rfl, A.a, C, A.x, _, _, rfl, t.ins, T.cl, T.nD, tf_done, (by show 2 ≤ sizeLine; decide), fun tp htp => ?_⟩
    have s1 : Same H (upd H tp (.tup [.ref A.g, .ref A.d])) := same_new htp
    have l1 : upd H tp (.tup [.ref A.g, .ref A.d]) tp = some (.tup [.ref A.g, .ref A.d]) := upd_same
    generalize upd H tp (.tup [.ref A.g, .ref A.d]) = H1 at s1 l1 ⊢
    refine ⟨A, d, tp, d.p, rfl, t.same s1, o, ⟨A.g, A.d, l1, s1 _ _ t.g, s1 _ _ t.d⟩, o.g, o.d, fun H2 b s2 _ hb2 => ?_⟩
    have t2 := t.same (s1.trans s2)
    refine ⟨_, rfl, A.a, C, A.x, _, _, rfl, t2.ins, T.cl, T.nW, tf_weights, A.w, Krcj.ints d.g.weights, rfl, ?_, (by show 1 ≤ sizeLine; decide), fun u hu => ?_⟩
    · rw [← vi_ints]
      exact SqL.of t2.w
    have s3 : Same H2 (upd H2 u (.lst [V.int (Krcj.ints d.g.weights).sum])) := same_new hu
    refine ⟨b, u, _, _, rfl, rfl, s3 _ _ hb2, upd_same, (by show 2 + 1 ≤ sizeLine; decide), fun p hp => q _ _ (After.read fr dk0 ((s1.trans s2).trans s3) hp ?_)⟩
    show [V.int (d.g.worth d.p : Nat), V.int (d.giver.worth d.p : Nat), V.int (Krcj.ints d.g.weights).sum] = [V.int (d.g.worth d.p : Nat), V.int (d.giver.worth d.p : Nat), V.int (d.g.all : Nat)]
    rw [all_sum o]
    unfold Krcj.ints
    rw [sum_cast]
theorem ok_trest (T : Txt K mg C) (D : Dfn K mg "tell_rest" sTRest) (Gb : Has P w K mg base 5 "rests_for_both" (spPlan C fun d g dn => .bl (restG d g dn && restA d g dn))) : Has P w K mg base 6 "tell_rest" (spAsk C (fun _ => .rest) fun _ => True) := by
  refine D.has scTRest ?_ (fun _ _ _ _ _ _ us hl => match us, hl with | [_, _], _ => rfl) ?_
  · rintro vs H Q E ⟨G, L, a, d, r, l, rfl, _⟩
    rfl
  · rintro f cdv A0 outer s0 H vs Q E hr ⟨G, L, a, d, r, l, rfl, fr, dk, hrow, gr, rL, hl, _, q⟩
    have dk0 := dk
    obtain ⟨A, rfl, t, o, hw, np, nn, ng, nd⟩ := dk
    refine ⟨_, pss_one (ps_ret (pe_lst (pa_cons (pe_ifExp (pt_val (pe_h Gb hr (by decide) (by rfl) (pa_cons (pv 0) (pa_cons (pe_fld (pv 0) rfl) (pa_cons (pe_fld (pv 0) rfl) pa_nil))))) pe_int pe_int) pa_nil))), ?_⟩
    refine ⟨_, rfl, _, rfl, A.a, C, A.x, _, _, rfl, t.ins, T.cl, T.nG, tf_given, _, rfl, A.a, C, A.x, _, _, rfl, t.ins, T.cl, T.nD, tf_done, A, d, A.g, d.p.send, A.d, d.p.act, rfl, t, o, t.g, o.g, t.d, o.d, fun H1 s1 => ⟨_, rfl, ?_⟩⟩
    have e : d.rest d.p = (restG d d.p.send d.p.act && restA d d.p.send d.p.act) := rest_eq o o.g o.d
    have q : ∀ H' p, After C G L A.a H H' p (some d, Krcj.ask (d.rest d.p)) → Q (.ref p) H' := q
    rw [e] at q
    show if (restG d d.p.send d.p.act && restA d d.p.send d.p.act) = true then _ else _
    cases c : (restG d d.p.send d.p.act && restA d d.p.send d.p.act) with
    | true =>
      rw [c] at q
      exact iteT ⟨(by show 1 ≤ sizeLine; decide), fun p hp => q _ _ (After.read fr dk0 s1 hp rfl)⟩
    | false =>
      rw [c] at q
      exact iteF ⟨(by show 1 ≤ sizeLine; decide), fun p hp => q _ _ (After.read fr dk0 s1 hp rfl)⟩
theorem ok_tbetter (T : Txt K mg C) (D : Dfn K mg "tell_better" sTBetter) (Gg : Has P w K mg base 2 "most_to_giver" (spMostG C)) (Ga : Has P w K mg base 3 "most_to_actor" (spMostA C)) : Has P w K mg base 4 "tell_better" (spAsk C (fun _ => .better) fun _ => True) := by
  refine D.has scTBetter ?_ (fun _ _ _ _ _ _ us hl => match us, hl with | [_, _], _ => rfl) ?_
  · rintro vs H Q E ⟨G, L, a, d, r, l, rfl, _⟩
    rfl
  · rintro f cdv A0 outer s0 H vs Q E hr ⟨G, L, a, d, r, l, rfl, fr, dk, hrow, gr, rL, hl, _, q⟩
    have dk0 := dk
    obtain ⟨A, rfl, t, o, hw, np, nn, ng, nd⟩ := dk
    refine ⟨_, pss_one (ps_ret (pe_lst (pa_cons (pe_h Gg hr (by decide) (by rfl) (pa_cons (pv 0) (pa_cons (pe_fld (pv 0) rfl) pa_nil))) (pa_cons (pe_h Ga hr (by decide) (by rfl) (pa_cons (pv 0) (pa_cons (pe_fld (pv 0) rfl) pa_nil))) pa_nil)))), ?_⟩
    refine ⟨_, rfl, _, rfl, A.a, C, A.x, _, _, rfl, t.ins, T.cl, T.nD, tf_done, A, d, A.d, d.p.act, rfl, t, o, t.d, o.d, fun H1 s1 => ?_⟩
    have t1 := t.same s1
    refine ⟨_, rfl, _, rfl, A.a, C, A.x, _, _, rfl, t1.ins, T.cl, T.nG, tf_given, A, d, A.g, d.p.send, rfl, t1, o, t1.g, o.g, fun H2 s2 => ?_⟩
    refine ⟨(by show 2 ≤ sizeLine; decide), fun p hp => q _ _ (After.read fr dk0 (s1.trans s2) hp ?_)⟩
    show [V.int (mostG d d.p.act : Nat), V.int (mostA d d.p.send : Nat)] = [V.int (d.giver.worth ⟨d.giver.bestSends d.p.act, d.p.act⟩ : Nat), V.int (d.g.worth ⟨d.p.send, d.g.bestActs d.p.send⟩ : Nat)]
    rw [giver_best o o.d, actor_best o o.g]
theorem ok_trests (T : Txt K mg C) (D : Dfn K mg "tell_rests" sTRests) (Gp : Has P w K mg base 6 "plans_at_rest" (spPlans C)) (Gt : Has P w K mg base 1 "told_apart" spTold) : Has P w K mg base 7 "tell_rests" (spAsk C (fun _ => .rests) fun _ => True) := by
  refine D.has scTRests ?_ (fun _ _ _ _ _ _ us hl => match us, hl with | [_, _], _ => rfl) ?_
  · rintro vs H Q E ⟨G, L, a, d, r, l, rfl, _⟩
    rfl
  · rintro f cdv A0 outer s0 H vs Q E hr ⟨G, L, a, d, r, l, rfl, fr, dk, hrow, gr, rL, hl, _, q⟩
    have dk0 := dk
    obtain ⟨A, rfl, t, o, hw, np, nn, ng, nd⟩ := dk
    refine ⟨_, pss_cons (ps_set (i := 2) scTRests.nd rfl (Or.inl rfl) (pe_h Gp hr (by decide) (by rfl) (pa_cons (pv 0) pa_nil)))
      (pss_one (ps_ret (pe_lst (pa_cons (pe_callB call_len_seq (by rfl) T.mlen PySem.boot_len (pa_cons (pv 2) pa_nil)) (pa_cons (pe_callB (cr_max rfl) (by rfl) T.mmax (by decide +kernel) (pa_cons
        (pe_lc (own := [("plan", 3)]) (g := gName 3) (tt := tYes) rfl scTRests.nd (pi_list (pv 2)) (blkOk_by (own := [("plan", 3)]) (N := ["table", "row", "found", "plan"]) (sc := defScope sTRests) (by decide +kernel))
          (fun _ _ _ _ _ => pg_name (i := 3) scTRests.nd rfl (Or.inl rfl)) (fun _ _ _ _ _ => pts_nil)
          (fun _ _ _ _ _ => pe_h Gt hr (by decide) (by rfl) (pa_cons (pe_ix (ixTK K) (pv 3) pe_int (fun _ _ => rfl)) pa_nil))) pa_nil)) pa_nil))))), ?_⟩
    refine ⟨_, rfl, A, d, rfl, t, o, fun H1 F ts s1 R e => ?_⟩
    have e' : ts.map (·.2) = d.rests := by rw [e, rests_eq o]
    have hlen : ts.length ≤ 729 := by
      have h := congrArg List.length e
      rw [List.length_map] at h
      have h2 := List.length_filter_le (restB d) d.g.plans
      have h3 := plans_len o
      omega
    refine ⟨_, rfl, F, _, rfl, .inl (SqL.of R.lst), _, rfl, F, rfl, ⟨_, SqL.of R.lst⟩, fun D1 hD1 => ?_⟩
    refine lcM (ys := ts) (G := fun (y : Addr × Plan) => V.ref y.1) (fun y => V.int (Krcm.told y.2 : Nat)) hD1 (Nat.lt_of_le_of_lt hlen (by decide)) (SqL.of R.lst) ?_ gName_mono ?_
    · intro y H2 Q2 hy s2 q2
      obtain ⟨ag, ad, h1, h2, h3⟩ := (R.pl y hy).same s2
      have ym : y.2 ∈ d.g.plans := by
        have : y.2 ∈ ts.map (·.2) := List.mem_map.mpr ⟨y, hy, rfl⟩
        rw [e] at this
        exact (List.mem_filter.mp this).1
      have yl : y.2.send.length < 64 := by
        rw [(plans_mem.mp ym).1.1]
        have := o.n3
        omega
      exact ⟨rfl, _, rfl, y.1, _, _, _, rfl, rfl, SqT.of h1, at_of (j := 0) rfl rfl, ag, y.2.send, rfl, h2, yl, q2 _ (Same.refl _)⟩
    · intro H2 s2 hD2
      refine ⟨D1, (ts.map fun y => Krcm.told y.2).map (fun (x : Nat) => (x : Int)), rfl, ?_, ?_, ?_⟩
      · rw [List.map_map, List.map_map]
        exact SqL.of hD2
      · rw [List.length_map, List.length_map]
        have h := rests_some o
        rw [← e'] at h
        obtain ⟨y, hy, _⟩ := List.mem_map.mp h
        exact List.length_pos_of_mem hy
      · intro z hz hle
        have ez := mx_int hz hle
        subst ez
        refine ⟨(by show 2 ≤ sizeLine; decide), fun p hp => q _ _ (After.read fr dk0 (s1.trans s2) hp ?_)⟩
        show [V.int ((ts.map fun q => V.ref q.1).length : Nat), V.int (mx (ts.map fun y => Krcm.told y.2) : Nat)] = [V.int (d.rests.length : Nat), V.int ((d.rests.map Krcm.told).foldl max 0 : Nat)]
        rw [← e', List.length_map, List.length_map, List.map_map]
        rfl
end
end Tw

set_option maxRecDepth 100000
set_option maxHeartbeats 2000000
/-! tell_mosttold, tell_bestgiver, tell_bestactor, tell_nothing, tell_honest. -/
namespace Tw
open PySem PySem.Spec PyProof.Rows L2
open Krcj (Game Plan)
open Krcm (Desk)

theorem mstep_map {T U : Type} (f : U → Nat) (g : T → U) : ∀ (l : List T) (b : Option T), (l.map g).foldl (mstep f) (b.map g) = (l.foldl (mstep fun x => f (g x)) b).map g
  | [], b => rfl
  | x :: l, b => by
    rw [List.map_cons, List.foldl_cons, List.foldl_cons, ← mstep_map f g l]
    congr 1
    cases b with
    | none => rfl
    | some q =>
      show (if f (g q) < f (g x) then some (g x) else some (g q)) = Option.map g (if f (g q) < f (g x) then some x else some q)
      by_cases c : f (g q) < f (g x)
      · rw [if_pos c, if_pos c]
        rfl
      · rw [if_neg c, if_neg c]
        rfl
theorem rest_first {d : Desk} (o : Ok d) {ts : List (Addr × Plan)} (e : ts.map (·.2) = d.rests) (f : Plan → Nat) : ∃ j y, First (fun (q : Addr × Plan) => f q.2) ts j y ∧ Krcm.most d.rests f = some y.2 := by
  have ne : ts ≠ [] := by
    intro z
    have h := rests_some o
    rw [← e, z] at h
    cases h
  obtain ⟨j, y, h1, h2⟩ := first_most (fun (q : Addr × Plan) => f q.2) ne
  refine ⟨j, y, h2, ?_⟩
  rw [most_eq, ← e]
  have h := mstep_map f (fun (q : Addr × Plan) => q.2) ts none
  rw [h1] at h
  exact h
theorem act_mosttold {d : Desk} {p : Plan} (h : Krcm.most d.rests Krcm.told = some p) : Krcm.act (some d) .mosttold = (some d, Krcm.planTold d p) := by
  simp [Krcm.act, h]
theorem act_bestgiver {d : Desk} {p : Plan} (h : Krcm.most d.rests d.giver.worth = some p) : Krcm.act (some d) .bestgiver = (some d, Krcm.planTold d p) := by
  simp [Krcm.act, h]
theorem act_bestactor {d : Desk} {p : Plan} (h : Krcm.most d.rests d.g.worth = some p) : Krcm.act (some d) .bestactor = (some d, Krcm.planTold d p) := by
  simp [Krcm.act, h]
theorem whole_told (d : Desk) (p : Plan) : vi (whole d p) = (KrcmNeutral.told (Krcm.planTold d p)).map V.int := by
  rw [vi_ints]
  rfl
/-- what is known of the plans at rest -/
structure Rests (d : Desk) (ts : List (Addr × Plan)) : Prop where
  eq : ts.map (·.2) = d.rests
  len : ts.length ≤ 729
  mem : ∀ q ∈ ts, q.2 ∈ d.g.plans
  ne : 0 < ts.length
theorem rests_of {d : Desk} (o : Ok d) {ts : List (Addr × Plan)} (e : ts.map (·.2) = d.g.plans.filter (restB d)) : Rests d ts := by
  have e' : ts.map (·.2) = d.rests := by rw [e, rests_eq o]
  refine ⟨e', ?_, fun q hq => ?_, ?_⟩
  · have h := congrArg List.length e
    rw [List.length_map] at h
    have h2 := List.length_filter_le (restB d) d.g.plans
    have h3 := plans_len o
    omega
  · have h : q.2 ∈ ts.map (·.2) := List.mem_map.mpr ⟨q, hq, rfl⟩
    rw [e] at h
    exact (List.mem_filter.mp h).1
  · have h := rests_some o
    rw [← e'] at h
    obtain ⟨y, hy, _⟩ := List.mem_map.mp h
    exact List.length_pos_of_mem hy

section
variable {P : Program} {w : World} {K : PySem.W.Frag} {mg : Str → Option Value} {base : Heap} {C : Addr}
abbrev sTMost : Stmt := top 42
abbrev sTGiver : Stmt := top 43
abbrev sTActor : Stmt := top 44
abbrev sTNothing : Stmt := top 45
abbrev sTHonest : Stmt := top 46
theorem scTMost : FnScope ["table", "row", "found", "plan"] ["table", "row"] (defScope sTMost) := ⟨rfl, rfl, rfl, by decide +kernel, rfl, by decide +kernel, by decide +kernel⟩
theorem scTGiver : FnScope ["table", "row", "found"] ["table", "row"] (defScope sTGiver) := ⟨rfl, rfl, rfl, by decide +kernel, rfl, by decide +kernel, by decide +kernel⟩
theorem scTActor : FnScope ["table", "row", "found"] ["table", "row"] (defScope sTActor) := ⟨rfl, rfl, rfl, by decide +kernel, rfl, by decide +kernel, by decide +kernel⟩
theorem scTNothing : FnScope ["table", "row"] ["table", "row"] (defScope sTNothing) := ⟨rfl, rfl, rfl, by decide +kernel, rfl, by decide +kernel, by decide +kernel⟩
theorem scTHonest : FnScope ["table", "row", "plan", "at_rest"] ["table", "row"] (defScope sTHonest) := ⟨rfl, rfl, rfl, by decide +kernel, rfl, by decide +kernel, by decide +kernel⟩
theorem ok_tmost (T : Txt K mg C) (D : Dfn K mg "tell_mosttold" sTMost) (Gp : Has P w K mg base 6 "plans_at_rest" (spPlans C)) (Gt : Has P w K mg base 1 "told_apart" spTold) (Gf : Has P w K mg base 1 "first_with_most" spFWM) (Gw : Has P w K mg base 4 "whole_plan" (spList C whole)) :
    Has P w K mg base 7 "tell_mosttold" (spAsk C (fun _ => .mosttold) fun _ => True) := by
  refine D.has scTMost ?_ (fun _ _ _ _ _ _ us hl => match us, hl with | [_, _], _ => rfl) ?_
  · rintro vs H Q E ⟨G, L, a, d, r, l, rfl, _⟩
    rfl
  · rintro f cdv A0 outer s0 H vs Q E hr ⟨G, L, a, d, r, l, rfl, fr, dk, hrow, gr, rL, hl, _, q⟩
    have dk0 := dk
    obtain ⟨A, rfl, t, o, hw, np, nn, ng, nd⟩ := dk
    refine ⟨_, pss_cons (ps_set (i := 2) scTMost.nd rfl (Or.inl rfl) (pe_h Gp hr (by decide) (by rfl) (pa_cons (pv 0) pa_nil)))
      (pss_one (ps_ret (pe_h Gw hr (by decide) (by rfl) (pa_cons (pv 0) (pa_cons (pe_h Gf hr (by decide) (by rfl) (pa_cons (pv 2) (pa_cons
        (pe_lc (own := [("plan", 3)]) (g := gName 3) (tt := tYes) rfl scTMost.nd (pi_list (pv 2)) (blkOk_by (own := [("plan", 3)]) (N := ["table", "row", "found", "plan"]) (sc := defScope sTMost) (by decide +kernel))
          (fun _ _ _ _ _ => pg_name (i := 3) scTMost.nd rfl (Or.inl rfl)) (fun _ _ _ _ _ => pts_nil)
          (fun _ _ _ _ _ => pe_h Gt hr (by decide) (by rfl) (pa_cons (pe_ix (ixTK K) (pv 3) pe_int (fun _ _ => rfl)) pa_nil))) pa_nil))) pa_nil))))), ?_⟩
    refine ⟨_, rfl, A, d, rfl, t, o, fun H1 F ts s1 R e => ?_⟩
    have rs := rests_of o e
    refine ⟨_, rfl, _, rfl, _, rfl, F, rfl, ⟨_, SqL.of R.lst⟩, fun D1 hD1 => ?_⟩
    refine lcM (ys := ts) (G := fun (y : Addr × Plan) => V.ref y.1) (fun y => V.int (Krcm.told y.2 : Nat)) hD1 (Nat.lt_of_le_of_lt rs.len (by decide)) (SqL.of R.lst) ?_ gName_mono ?_
    · intro y H2 Q2 hy s2 q2
      obtain ⟨ag, ad, h1, h2, h3⟩ := (R.pl y hy).same s2
      have yl : y.2.send.length < 64 := by
        rw [(plans_mem.mp (rs.mem y hy)).1.1]
        have := o.n3
        omega
      exact ⟨rfl, _, rfl, y.1, _, _, _, rfl, rfl, SqT.of h1, at_of (j := 0) rfl rfl, ag, y.2.send, rfl, h2, yl, q2 _ (Same.refl _)⟩
    · intro H2 s2 hD2
      obtain ⟨j, y, hf, hm⟩ := rest_first o rs.eq Krcm.told
      obtain ⟨rg, rd⟩ := plans_mem.mp (rs.mem y hf.mem)
      have q : ∀ H' p, After C G L A.a H H' p (Krcm.act (some d) .mosttold) → Q (.ref p) H' := q
      rw [act_mosttold hm] at q
      refine ⟨F, D1, ts, fun q => Krcm.told q.2, j, y, rfl, s2 _ _ R.lst, ?_, hf, ?_⟩
      · rw [vi_map]
        exact hD2
      · have s12 := s1.trans s2
        exact ⟨A, d, y.1, y.2, rfl, t.same s12, o, (R.pl y hf.mem).same s2, rg, rd, fun H3 p s3 hp hl3 => q _ _ (After.made fr dk0 (s12.trans s3) (s12.free hp) hl3 (whole_told d y.2))⟩
theorem ok_tgiver (T : Txt K mg C) (D : Dfn K mg "tell_bestgiver" sTGiver) (Gp : Has P w K mg base 6 "plans_at_rest" (spPlans C)) (Gs : Has P w K mg base 3 "worths_by" (spWorths C)) (Gf : Has P w K mg base 1 "first_with_most" spFWM) (Gw : Has P w K mg base 4 "whole_plan" (spList C whole)) :
    Has P w K mg base 7 "tell_bestgiver" (spAsk C (fun _ => .bestgiver) fun _ => True) := by
  refine D.has scTGiver ?_ (fun _ _ _ _ _ _ us hl => match us, hl with | [_, _], _ => rfl) ?_
  · rintro vs H Q E ⟨G, L, a, d, r, l, rfl, _⟩
    rfl
  · rintro f cdv A0 outer s0 H vs Q E hr ⟨G, L, a, d, r, l, rfl, fr, dk, hrow, gr, rL, hl, _, q⟩
    have dk0 := dk
    obtain ⟨A, rfl, t, o, hw, np, nn, ng, nd⟩ := dk
    refine ⟨_, pss_cons (ps_set (i := 2) scTGiver.nd rfl (Or.inl rfl) (pe_h Gp hr (by decide) (by rfl) (pa_cons (pv 0) pa_nil)))
      (pss_one (ps_ret (pe_h Gw hr (by decide) (by rfl) (pa_cons (pv 0) (pa_cons (pe_h Gf hr (by decide) (by rfl) (pa_cons (pv 2) (pa_cons
        (pe_h Gs hr (by decide) (by rfl) (pa_cons (pv 0) (pa_cons (pe_fld (pv 0) rfl) (pa_cons (pv 2) pa_nil)))) pa_nil))) pa_nil))))), ?_⟩
    refine ⟨_, rfl, A, d, rfl, t, o, fun H1 F ts s1 R e => ?_⟩
    have rs := rests_of o e
    have t1 := t.same s1
    refine ⟨_, rfl, _, rfl, _, rfl, _, rfl, A.a, C, A.x, _, _, rfl, t1.ins, T.cl, T.nA, tf_wants, _, rfl, A, d, A.n, d.wants, F, ts, rfl, t1, o, t1.n, o.n, R, rs.mem, rs.len, fun H2 D1 s2 _ hD2 => ?_⟩
    obtain ⟨j, y, hf, hm⟩ := rest_first o rs.eq d.giver.worth
    obtain ⟨rg, rd⟩ := plans_mem.mp (rs.mem y hf.mem)
    have q : ∀ H' p, After C G L A.a H H' p (Krcm.act (some d) .bestgiver) → Q (.ref p) H' := q
    rw [act_bestgiver hm] at q
    have s12 := s1.trans s2
    exact ⟨F, D1, ts, fun q => d.giver.worth q.2, j, y, rfl, s2 _ _ R.lst, hD2, hf, A, d, y.1, y.2, rfl, t.same s12, o, (R.pl y hf.mem).same s2, rg, rd, fun H3 p s3 hp hl3 => q _ _ (After.made fr dk0 (s12.trans s3) (s12.free hp) hl3 (whole_told d y.2))⟩
theorem ok_tactor (T : Txt K mg C) (D : Dfn K mg "tell_bestactor" sTActor) (Gp : Has P w K mg base 6 "plans_at_rest" (spPlans C)) (Gs : Has P w K mg base 3 "worths_by" (spWorths C)) (Gf : Has P w K mg base 1 "first_with_most" spFWM) (Gw : Has P w K mg base 4 "whole_plan" (spList C whole)) :
    Has P w K mg base 7 "tell_bestactor" (spAsk C (fun _ => .bestactor) fun _ => True) := by
  refine D.has scTActor ?_ (fun _ _ _ _ _ _ us hl => match us, hl with | [_, _], _ => rfl) ?_
  · rintro vs H Q E ⟨G, L, a, d, r, l, rfl, _⟩
    rfl
  · rintro f cdv A0 outer s0 H vs Q E hr ⟨G, L, a, d, r, l, rfl, fr, dk, hrow, gr, rL, hl, _, q⟩
    have dk0 := dk
    obtain ⟨A, rfl, t, o, hw, np, nn, ng, nd⟩ := dk
    refine ⟨_, pss_cons (ps_set (i := 2) scTActor.nd rfl (Or.inl rfl) (pe_h Gp hr (by decide) (by rfl) (pa_cons (pv 0) pa_nil)))
      (pss_one (ps_ret (pe_h Gw hr (by decide) (by rfl) (pa_cons (pv 0) (pa_cons (pe_h Gf hr (by decide) (by rfl) (pa_cons (pv 2) (pa_cons
        (pe_h Gs hr (by decide) (by rfl) (pa_cons (pv 0) (pa_cons (pe_fld (pv 0) rfl) (pa_cons (pv 2) pa_nil)))) pa_nil))) pa_nil))))), ?_⟩
    refine ⟨_, rfl, A, d, rfl, t, o, fun H1 F ts s1 R e => ?_⟩
    have rs := rests_of o e
    have t1 := t.same s1
    refine ⟨_, rfl, _, rfl, _, rfl, _, rfl, A.a, C, A.x, _, _, rfl, t1.ins, T.cl, T.nP, tf_pays, _, rfl, A, d, A.p, d.g.pays, F, ts, rfl, t1, o, t1.p, o.p, R, rs.mem, rs.len, fun H2 D1 s2 _ hD2 => ?_⟩
    obtain ⟨j, y, hf, hm⟩ := rest_first o rs.eq d.g.worth
    obtain ⟨rg, rd⟩ := plans_mem.mp (rs.mem y hf.mem)
    have q : ∀ H' p, After C G L A.a H H' p (Krcm.act (some d) .bestactor) → Q (.ref p) H' := q
    rw [act_bestactor hm] at q
    have s12 := s1.trans s2
    exact ⟨F, D1, ts, fun q => d.g.worth q.2, j, y, rfl, s2 _ _ R.lst, hD2, hf, A, d, y.1, y.2, rfl, t.same s12, o, (R.pl y hf.mem).same s2, rg, rd, fun H3 p s3 hp hl3 => q _ _ (After.made fr dk0 (s12.trans s3) (s12.free hp) hl3 (whole_told d y.2))⟩
theorem ok_tnothing (T : Txt K mg C) (D : Dfn K mg "tell_nothing" sTNothing) (Gn : Has P w K mg base 4 "nothing_plan" (spNothing C)) (Gw : Has P w K mg base 4 "whole_plan" (spList C whole)) :
    Has P w K mg base 5 "tell_nothing" (spAsk C (fun _ => .nothing) fun _ => True) := by
  refine D.has scTNothing ?_ (fun _ _ _ _ _ _ us hl => match us, hl with | [_, _], _ => rfl) ?_
  · rintro vs H Q E ⟨G, L, a, d, r, l, rfl, _⟩
    rfl
  · rintro f cdv A0 outer s0 H vs Q E hr ⟨G, L, a, d, r, l, rfl, fr, dk, hrow, gr, rL, hl, _, q⟩
    have dk0 := dk
    obtain ⟨A, rfl, t, o, hw, np, nn, ng, nd⟩ := dk
    refine ⟨_, pss_one (ps_ret (pe_h Gw hr (by decide) (by rfl) (pa_cons (pv 0) (pa_cons (pe_h Gn hr (by decide) (by rfl) (pa_cons (pv 0) pa_nil)) pa_nil)))), ?_⟩
    have q : ∀ H' p, After C G L A.a H H' p (some d, Krcm.planTold d d.nothing) → Q (.ref p) H' := q
    obtain ⟨rg, rd⟩ := nothing_ok o
    exact ⟨_, rfl, _, rfl, A, d, rfl, t, o, fun H1 tp s1 pa => ⟨A, d, tp, d.nothing, rfl, t.same s1, o, pa, rg, rd, fun H2 p s2 hp hl2 => q _ _ (After.made fr dk0 (s1.trans s2) (s1.free hp) hl2 (whole_told d d.nothing))⟩⟩
theorem act_honest_no {d : Desk} (h : d.g.m < d.g.n) : Krcm.act (some d) .honest = (some d, Krcj.say (-33)) := by
  simp [Krcm.act, h]
theorem act_honest_yes {d : Desk} (h : ¬ d.g.m < d.g.n) : Krcm.act (some d) .honest = (some d, { num := if d.rest d.honest then 1 else 0, nums := Krcj.ints [d.g.worth d.honest, d.giver.worth d.honest] }) := by
  simp [Krcm.act, h]
theorem ok_thonest (T : Txt K mg C) (N : Cst mg) (D : Dfn K mg "tell_honest" sTHonest) (Gh : Has P w K mg base 4 "honest_plan" (spHonest C)) (Gr : Has P w K mg base 5 "rests_for_both" (spPlan C fun d g dn => .bl (restG d g dn && restA d g dn))) (Gb : Has P w K mg base 3 "both_worths" (spList C both)) :
    Has P w K mg base 6 "tell_honest" (spAsk C (fun _ => .honest) fun _ => True) := by
  refine D.has scTHonest ?_ (fun _ _ _ _ _ _ us hl => match us, hl with | [_, _], _ => rfl) ?_
  · rintro vs H Q E ⟨G, L, a, d, r, l, rfl, _⟩
    rfl
  · rintro f cdv A0 outer s0 H vs Q E hr ⟨G, L, a, d, r, l, rfl, fr, dk, hrow, gr, rL, hl, _, q⟩
    have dk0 := dk
    obtain ⟨A, rfl, t, o, hw, np, nn, ng, nd⟩ := dk
    refine ⟨_, pss_cons (ps_if (pt_cmpR op_lt (pe_fld (pv 0) rfl) (pe_fld (pv 0) rfl) (nomark _)) (pss_one (ps_ret (pe_lst (pa_cons (pe_cst (by rfl) N.cb) pa_nil)))) pss_nil)
      (pss_cons (ps_set (i := 2) scTHonest.nd rfl (Or.inl rfl) (pe_h Gh hr (by decide) (by rfl) (pa_cons (pv 0) pa_nil)))
      (pss_cons (ps_set (i := 3) scTHonest.nd rfl (Or.inl rfl) (pe_ifExp (pt_val (pe_h Gr hr (by decide) (by rfl) (pa_cons (pv 0) (pa_cons (pe_ix ix_tup (pv 2) pe_int (fun _ _ => rfl)) (pa_cons (pe_ix ix_tup (pv 2) pe_int (fun _ _ => rfl)) pa_nil))))) pe_int pe_int))
      (pss_one (ps_ret (pe_op op_cat (pe_lst (pa_cons (pv 3) pa_nil)) (pe_h Gb hr (by decide) (by rfl) (pa_cons (pv 0) (pa_cons (pv 2) pa_nil)))))))), ?_⟩
    have q : ∀ H' p, After C G L A.a H H' p (Krcm.act (some d) .honest) → Q (.ref p) H' := q
    refine ⟨_, rfl, A.a, C, A.x, _, _, rfl, t.ins, T.cl, T.nM, tf_signs, _, rfl, A.a, C, A.x, _, _, rfl, t.ins, T.cl, T.nN, tf_ways, _, _, rfl, rfl, _, rfl, ?_⟩
    show if decide (((d.g.m : Nat) : Int) < ((d.g.n : Nat) : Int)) = true then _ else _
    by_cases c : d.g.m < d.g.n
    · rw [act_honest_no c] at q
      rw [decide_eq_true (by omega)]
      exact iteT ⟨(by show 1 ≤ sizeLine; decide), fun p hp => q _ _ (After.read fr dk0 (Same.refl _) hp rfl)⟩
    · rw [act_honest_yes c] at q
      rw [decide_eq_false (by omega)]
      refine iteF ?_
      have hnm : d.g.n ≤ d.g.m := by omega
      obtain ⟨rg, rd⟩ := honest_ok o hnm
      have er : d.rest d.honest = (restG d d.honest.send d.honest.act && restA d d.honest.send d.honest.act) := rest_eq o rg rd
      rw [er] at q
      refine ⟨_, rfl, A, d, rfl, t, o, hnm, fun H1 tp s1 pa => ?_⟩
      have pa0 := pa
      obtain ⟨ag, ad, h1, h2, h3⟩ := pa
      refine ⟨_, rfl, _, rfl, tp, _, _, _, rfl, rfl, SqT.of h1, at_of (j := 0) rfl rfl, _, rfl, tp, _, _, _, rfl, rfl, SqT.of h1, at_of (j := 1) rfl rfl,
        A, d, ag, d.honest.send, ad, d.honest.act, rfl, t.same s1, o, h2, rg, h3, rd, fun H2 s2 => ⟨_, rfl, ?_⟩⟩
      show if (restG d d.honest.send d.honest.act && restA d d.honest.send d.honest.act) = true then _ else _
      cases c2 : (restG d d.honest.send d.honest.act && restA d d.honest.send d.honest.act) with
      | true =>
        rw [c2] at q
        refine iteT ?_
        refine ⟨_, rfl, (by show 1 ≤ sizeLine; decide), fun u hu => ?_⟩
        have s3 : Same H2 (upd H2 u (.lst [V.int 1])) := same_new hu
        have l3 : upd H2 u (.lst [V.int 1]) u = some (.lst [V.int 1]) := upd_same
        have s13 := (s1.trans s2).trans s3
        generalize upd H2 u (.lst [V.int 1]) = H3 at s3 l3 s13 ⊢
        refine ⟨_, rfl, _, rfl, A, d, tp, d.honest, rfl, t.same s13, o, pa0.same (s2.trans s3), rg, rd, fun H4 b s4 _ hb4 => ?_⟩
        exact ⟨u, b, _, _, rfl, rfl, s4 _ _ l3, hb4, (by show 1 + 2 ≤ sizeLine; decide), fun p hp => q _ _ (After.read fr dk0 (s13.trans s4) hp rfl)⟩
      | false =>
        rw [c2] at q
        refine iteF ?_
        refine ⟨_, rfl, (by show 1 ≤ sizeLine; decide), fun u hu => ?_⟩
        have s3 : Same H2 (upd H2 u (.lst [V.int 0])) := same_new hu
        have l3 : upd H2 u (.lst [V.int 0]) u = some (.lst [V.int 0]) := upd_same
        have s13 := (s1.trans s2).trans s3
        generalize upd H2 u (.lst [V.int 0]) = H3 at s3 l3 s13 ⊢
        refine ⟨_, rfl, _, rfl, A, d, tp, d.honest, rfl, t.same s13, o, pa0.same (s2.trans s3), rg, rd, fun H4 b s4 _ hb4 => ?_⟩
        exact ⟨u, b, _, _, rfl, rfl, s4 _ _ l3, hb4, (by show 1 + 2 ≤ sizeLine; decide), fun p hp => q _ _ (After.read fr dk0 (s13.trans s4) hp rfl)⟩
end
end Tw

set_option maxRecDepth 100000
set_option maxHeartbeats 2000000
/-! tell_envies, tell_agree, tell_cost, tell_state. -/
namespace Tw
open PySem PySem.Spec PyProof.Rows L2
open Krcj (Game Plan)
open Krcm (Desk)

theorem act_envies_no {d : Desk} (h : d.g.m < d.g.n) : Krcm.act (some d) .envies = (some d, Krcj.say (-33)) := by
  simp [Krcm.act, h]
theorem act_envies_yes {d : Desk} (h : ¬ d.g.m < d.g.n) : Krcm.act (some d) .envies = (some d, { num := d.envies.length, nums := Krcj.ints (d.envies.flatMap fun y => [y.1, y.2]) }) := by
  simp [Krcm.act, h]
theorem flat_len : ∀ l : List (Nat × Nat), (l.flatMap fun y => [y.1, y.2]).length = 2 * l.length
  | [] => rfl
  | x :: l => by
    rw [List.flatMap_cons, List.length_append, flat_len l]
    show 2 + 2 * l.length = 2 * (l.length + 1)
    omega
theorem envies_len {d : Desk} (o : Ok d) : d.envies.length ≤ 9 := by
  rw [← twos_envies o]
  have h1 := twos_len o d.honest.act d.g.n
  have h2 := o.n3
  omega
theorem eqDK {X : Cx} (K : PySem.W.Frag) (hu : X.A.units + 64 < cLine) (h : X.K = K := by rfl) : OpR X (compareOp .Eq) (rEqD K) := h ▸ op_eqD hu
theorem eqv_two (a b c e : Nat) : PyData.eqv (.tuple [.int (a : Nat), .int (b : Nat)]) (.tuple [.int (c : Nat), .int (e : Nat)]) = (decide (a = c) && decide (b = e)) := by
  have h : ∀ x y : Nat, ((x : Int) == (y : Int)) = decide (x = y) := fun x y => by
    rw [Bool.eq_iff_iff, beq_iff_eq, decide_eq_true_iff]
    omega
  show (((a : Int) == (c : Int)) && (((b : Int) == (e : Int)) && true)) = _
  rw [h, h, Bool.and_true]

section
variable {P : Program} {w : World} {K : PySem.W.Frag} {mg : Str → Option Value} {base : Heap} {C : Addr}
abbrev sTEnvies : Stmt := top 47
abbrev sTAgree : Stmt := top 48
abbrev sTCost : Stmt := top 49
abbrev sTState : Stmt := top 50
theorem scTEnvies : FnScope ["table", "row", "twos", "told", "two"] ["table", "row"] (defScope sTEnvies) := ⟨rfl, rfl, rfl, by decide +kernel, rfl, by decide +kernel, by decide +kernel⟩
theorem scTAgree : FnScope ["table", "row", "found", "to_actor", "to_giver", "most", "pair"] ["table", "row"] (defScope sTAgree) := ⟨rfl, rfl, rfl, by decide +kernel, rfl, by decide +kernel, by decide +kernel⟩
theorem scTCost : FnScope ["table", "row"] ["table", "row"] (defScope sTCost) := ⟨rfl, rfl, rfl, by decide +kernel, rfl, by decide +kernel, by decide +kernel⟩
theorem scTState : FnScope ["table", "row", "sizes"] ["table", "row"] (defScope sTState) := ⟨rfl, rfl, rfl, by decide +kernel, rfl, by decide +kernel, by decide +kernel⟩

theorem ok_tenvies (T : Txt K mg C) (N : Cst mg) (D : Dfn K mg "tell_envies" sTEnvies) (Gt : Has P w K mg base 5 "envious_twos" (spTwos C)) : Has P w K mg base 6 "tell_envies" (spAsk C (fun _ => .envies) fun _ => True) := by
  refine D.has scTEnvies ?_ (fun _ _ _ _ _ _ us hl => match us, hl with | [_, _], _ => rfl) ?_
  · rintro vs H Q E ⟨G, L, a, d, r, l, rfl, _⟩
    rfl
  · rintro f cdv A0 outer s0 H vs Q E hr ⟨G, L, a, d, r, l, rfl, fr, dk, hrow, gr, rL, hl, _, q⟩
    have dk0 := dk
    obtain ⟨A, rfl, t, o, hw, np, nn, ng, nd⟩ := dk
    refine ⟨_, pss_cons (ps_if (pt_cmpR op_lt (pe_fld (pv 0) rfl) (pe_fld (pv 0) rfl) (nomark _)) (pss_one (ps_ret (pe_lst (pa_cons (pe_cst (by rfl) N.cb) pa_nil)))) pss_nil)
      (pss_cons (ps_set (i := 2) scTEnvies.nd rfl (Or.inl rfl) (pe_h Gt hr (by decide) (by rfl) (pa_cons (pv 0) pa_nil)))
      (pss_cons (ps_set (i := 3) scTEnvies.nd rfl (Or.inl rfl) (pe_lst (pa_cons (pe_callB call_len_seq (by rfl) T.mlen PySem.boot_len (pa_cons (pv 2) pa_nil)) pa_nil)))
      (pss_cons (ps_for PassesOwn.never rfl (pi_list (pv 2)) (pg_name (i := 4) scTEnvies.nd rfl (Or.inl rfl))
        (pss_one (ps_expr (pe_bm PySem.F.plainAttrs_list PySem.F.slot_list_extend PySem.F.type_list_extend mt_extT (pv 3) (pa_cons (pv 4) pa_nil)))))
      (pss_one (ps_ret (pv 3)))))), ?_⟩
    have q : ∀ H' p, After C G L A.a H H' p (Krcm.act (some d) .envies) → Q (.ref p) H' := q
    refine ⟨_, rfl, A.a, C, A.x, _, _, rfl, t.ins, T.cl, T.nM, tf_signs, _, rfl, A.a, C, A.x, _, _, rfl, t.ins, T.cl, T.nN, tf_ways, _, _, rfl, rfl, _, rfl, ?_⟩
    show if decide (((d.g.m : Nat) : Int) < ((d.g.n : Nat) : Int)) = true then _ else _
    by_cases c : d.g.m < d.g.n
    · rw [act_envies_no c] at q
      rw [decide_eq_true (by omega)]
      exact iteT ⟨(by show 1 ≤ sizeLine; decide), fun p hp => q _ _ (After.read fr dk0 (Same.refl _) hp rfl)⟩
    · rw [act_envies_yes c] at q
      rw [decide_eq_false (by omega)]
      refine iteF ⟨_, rfl, A, d, rfl, t, o, by omega, fun H1 F zs s1 R e => ?_⟩
      have hlen : zs.length ≤ 9 := by
        have h := congrArg List.length e
        rw [List.length_map] at h
        have := envies_len o
        omega
      have big : 40 < sizeLine := by decide
      refine ⟨_, rfl, F, _, rfl, .inl (SqL.of R.lst), (by show 1 ≤ sizeLine; decide), fun M hM => ?_⟩
      rw [List.length_map]
      have s2 : Same H1 (upd H1 M (.lst [V.int (zs.length : Nat)])) := same_new hM
      have l2 : upd H1 M (.lst [V.int (zs.length : Nat)]) M = some (.lst [V.int (zs.length : Nat)]) := upd_same
      have FM : F ≠ M := ne_of_none R.lst hM
      have zM : ∀ z ∈ zs, z.1 ≠ M := fun z hz => ne_of_none (R.two z hz) hM
      have hMH : H M = none := s1.free hM
      have sH : Same H (upd H1 M (.lst [V.int (zs.length : Nat)])) := s1.trans s2
      generalize upd H1 M (.lst [V.int (zs.length : Nat)]) = H2 at s2 l2 sH ⊢
      refine ⟨_, rfl, F, rfl, ⟨_, SqL.of (s2 _ _ R.lst)⟩, ?_⟩
      refine for_list (K := K) (a := F) (xs := zs.map fun z => V.ref z.1) (fun i σ H' => ∃ v4 : Option V, σ = [some (.ref A.a), some (.ref r), some (.ref F), some (.ref M), v4] ∧ Same H H' ∧ But M H2 H' ∧
          H' M = some (.lst (vi (zs.length :: ((zs.take i).map (·.2)).flatMap fun y => [y.1, y.2]))))
        ⟨none, rfl, sH, fun _ _ _ h => h, l2⟩ (fun i σ H' _ ⟨_, _, _, bu, _⟩ => SqL.of (bu _ _ FM (s2 _ _ R.lst))) ?_ ?_
      · rintro i y σ H3 hi ⟨v4, rfl, s3, bu, hM3⟩
        rw [List.getElem?_map] at hi
        cases ez : zs[i]? with
        | none =>
          rw [ez] at hi
          cases hi
        | some z =>
          rw [ez] at hi
          obtain rfl : V.ref z.1 = y := Option.some.inj hi
          have hzm := List.mem_of_getElem? ez
          have hz3 : H3 z.1 = some (.tup [.int (z.2.1 : Nat), .int (z.2.2 : Nat)]) := bu _ _ (zM z hzm) (s2 _ _ (R.two z hzm))
          have hil : i < zs.length := (List.getElem?_eq_some_iff.mp ez).1
          refine ⟨_, rfl, .inl ⟨rfl, _, SqL.of hM3⟩, _, rfl, M, z.1, _, _, rfl, rfl, hM3, SqT.of hz3, ?_, ?_⟩
          · rw [vi_len, List.length_cons, flat_len, List.length_map, List.length_take]
            show _ + 2 ≤ sizeLine
            omega
          · refine ⟨_, rfl, ?_, bu.trans But.put, ?_⟩
            · intro b u hb
              rw [upd_ne (ne_of_none hb hMH)]
              exact s3 _ _ hb
            · rw [upd_same, List.take_add_one, ez, List.map_append, List.flatMap_append]
              show some (HO.lst (_ ++ vi [z.2.1, z.2.2])) = _
              rw [← vi_app]
              rfl
      · rintro σ H3 ⟨v4, rfl, s3, bu, hM3⟩
        rw [List.length_map, List.take_length, e] at hM3
        refine ⟨_, rfl, q _ _ (After.made fr dk0 s3 hMH hM3 ?_)⟩
        have h := congrArg List.length e
        rw [List.length_map] at h
        rw [h, vi_ints]
        rfl

theorem ok_tagree (T : Txt K mg C) (D : Dfn K mg "tell_agree" sTAgree) (Gp : Has P w K mg base 6 "plans_at_rest" (spPlans C)) (Gs : Has P w K mg base 3 "worths_by" (spWorths C)) : Has P w K mg base 7 "tell_agree" (spAsk C (fun _ => .agree) fun _ => True) := by
  refine D.has scTAgree ?_ (fun _ _ _ _ _ _ us hl => match us, hl with | [_, _], _ => rfl) ?_
  · rintro vs H Q E ⟨G, L, a, d, r, l, rfl, _⟩
    rfl
  · rintro f cdv A0 outer s0 H vs Q E hr ⟨G, L, a, d, r, l, rfl, fr, dk, hrow, gr, rL, hl, _, q⟩
    have dk0 := dk
    obtain ⟨A, rfl, t, o, hw, np, nn, ng, nd⟩ := dk
    refine ⟨_, pss_cons (ps_set (i := 2) scTAgree.nd rfl (Or.inl rfl) (pe_h Gp hr (by decide) (by rfl) (pa_cons (pv 0) pa_nil)))
      (pss_cons (ps_set (i := 3) scTAgree.nd rfl (Or.inl rfl) (pe_h Gs hr (by decide) (by rfl) (pa_cons (pv 0) (pa_cons (pe_fld (pv 0) rfl) (pa_cons (pv 2) pa_nil)))))
      (pss_cons (ps_set (i := 4) scTAgree.nd rfl (Or.inl rfl) (pe_h Gs hr (by decide) (by rfl) (pa_cons (pv 0) (pa_cons (pe_fld (pv 0) rfl) (pa_cons (pv 2) pa_nil)))))
      (pss_cons (ps_set (i := 5) scTAgree.nd rfl (Or.inr rfl) (pe_tup (pa_cons (pe_callB (cr_max rfl) (by rfl) T.mmax (by decide +kernel) (pa_cons (pv 3) pa_nil)) (pa_cons (pe_callB (cr_max rfl) (by rfl) T.mmax (by decide +kernel) (pa_cons (pv 4) pa_nil)) pa_nil))))
      (pss_one (ps_ret (pe_lst (pa_cons (pe_ifExp (pt_val (pe_callB (cr_any rfl) (by rfl) T.many (by decide +kernel) (pa_cons
        (pe_lc (own := [("pair", 6)]) (g := gName 6) (tt := tYes) rfl scTAgree.nd (pi_zn (by rfl) T.mzip (pa_cons (pv 3) (pa_cons (pv 4) pa_nil)))
          (blkOk_by (own := [("pair", 6)]) (N := ["table", "row", "found", "to_actor", "to_giver", "most", "pair"]) (sc := defScope sTAgree) (by decide +kernel))
          (fun _ _ _ _ _ => pg_name (i := 6) scTAgree.nd rfl (Or.inl rfl)) (fun _ _ _ _ _ => pts_nil)
          (fun _ _ _ _ _ => pe_cmpR (eqDK K hr.units) (pv 6) (pv 5) (nomark _))) pa_nil))) pe_int pe_int) pa_nil))))))), ?_⟩
    have q : ∀ H' p, After C G L A.a H H' p (some d, Krcj.ask (d.rests.any fun p => d.rests.all fun q => decide (d.g.worth q ≤ d.g.worth p) && decide (d.giver.worth q ≤ d.giver.worth p))) → Q (.ref p) H' := q
    rw [agree_eq] at q
    refine ⟨_, rfl, A, d, rfl, t, o, fun H1 F ts s1 R e => ?_⟩
    have rs := rests_of o e
    have t1 := t.same s1
    refine ⟨_, rfl, _, rfl, A.a, C, A.x, _, _, rfl, t1.ins, T.cl, T.nP, tf_pays, _, rfl, A, d, A.p, d.g.pays, F, ts, rfl, t1, o, t1.p, o.p, R, rs.mem, rs.len, fun H2 pa s2 _ ha2 => ?_⟩
    have t2 := t1.same s2
    refine ⟨_, rfl, _, rfl, A.a, C, A.x, _, _, rfl, t2.ins, T.cl, T.nA, tf_wants, _, rfl, A, d, A.n, d.wants, F, ts, rfl, t2, o, t2.n, o.n, R.same s2, rs.mem, rs.len, fun H3 pg s3 _ hg3 => ?_⟩
    have ha3 := s3 _ _ ha2
    have ha3 : H3 pa = some (.lst (vi (ts.map fun q => d.g.worth q.2))) := ha3
    have hg3 : H3 pg = some (.lst (vi (ts.map fun q => d.giver.worth q.2))) := hg3
    have asI : ∀ k : Addr × Plan → Nat, ((ts.map k).map (fun (x : Nat) => (x : Int))).map V.int = vi (ts.map k) := fun k => by
      rw [vi_ints]
      rfl
    have pos : ∀ k : Addr × Plan → Nat, 0 < ((ts.map k).map (fun (x : Nat) => (x : Int))).length := fun k => by
      rw [List.length_map, List.length_map]
      exact rs.ne
    refine ⟨_, rfl, pa, (ts.map fun q => d.g.worth q.2).map (fun (x : Nat) => (x : Int)), rfl, (by rw [asI]; exact SqL.of ha3), pos _, fun z hz hle => ?_⟩
    have ez := mx_int hz hle
    subst ez
    refine ⟨_, rfl, pg, (ts.map fun q => d.giver.worth q.2).map (fun (x : Nat) => (x : Int)), rfl, (by rw [asI]; exact SqL.of hg3), pos _, fun z hz hle => ?_⟩
    have ez := mx_int hz hle
    subst ez
    have em : ∀ f : Plan → Nat, mx (ts.map fun q => f q.2) = mx (d.rests.map f) := fun f => by
      rw [← rs.eq, List.map_map]
      rfl
    rw [em, em]
    generalize ma : mx (d.rests.map d.g.worth) = MA at q ⊢
    generalize mb : mx (d.rests.map d.giver.worth) = MB at q ⊢
    refine ⟨(by show 2 ≤ sizeLine; decide), fun tp htp => ?_⟩
    have s4 : Same H3 (upd H3 tp (.tup [V.int (MA : Nat), V.int (MB : Nat)])) := same_new htp
    have l4 : upd H3 tp (.tup [V.int (MA : Nat), V.int (MB : Nat)]) tp = some (.tup [V.int (MA : Nat), V.int (MB : Nat)]) := upd_same
    have s14 := ((s1.trans s2).trans s3).trans s4
    generalize upd H3 tp (.tup [V.int (MA : Nat), V.int (MB : Nat)]) = H4 at s4 l4 s14 ⊢
    refine ⟨_, rfl, _, rfl, pa, pg, _, _, rfl, SqL.of (s4 _ _ ha3), SqL.of (s4 _ _ hg3), fun D1 hD1 => ?_⟩
    refine lc_it (walk_zip (xs := vi (ts.map fun q => d.g.worth q.2)) (ys := vi (ts.map fun q => d.giver.worth q.2)) (n := ts.length) (by rw [vi_len, vi_len, List.length_map, List.length_map, Nat.min_self]))
      (fun i H' => Same H4 H' ∧ H' D1 = some (.lst ((ts.take i).map fun q => V.bl (decide (d.g.worth q.2 = MA) && decide (d.giver.worth q.2 = MB))))) ⟨same_new hD1, upd_same⟩ (fun i H' _ p => ⟨SqL.of (p.1 _ _ (s4 _ _ ha3)), SqL.of (p.1 _ _ (s4 _ _ hg3))⟩) ?_ ?_
    · rintro i x H5 H6 hi ⟨s5, hD5⟩ ⟨tq, x1, x2, rfl, htq, rfl, e1, e2⟩
      have ey : ts[i]? = some ts[i] := List.getElem?_eq_getElem hi
      generalize ts[i] = y at ey
      have e1' : V.int (d.g.worth y.2 : Nat) = x1 := by
        have e3 : (vi (ts.map fun q => d.g.worth q.2))[i]? = some x1 := e1
        unfold vi at e3
        rw [List.getElem?_map, List.getElem?_map, ey] at e3
        exact Option.some.inj e3
      have e2' : V.int (d.giver.worth y.2 : Nat) = x2 := by
        have e3 : (vi (ts.map fun q => d.giver.worth q.2))[i]? = some x2 := e2
        unfold vi at e3
        rw [List.getElem?_map, List.getElem?_map, ey] at e3
        exact Option.some.inj e3
      subst e1' e2'
      have s6 : Same H5 (upd H5 tq (.tup [V.int (d.g.worth y.2 : Nat), V.int (d.giver.worth y.2 : Nat)])) := same_new htq
      have l6 : upd H5 tq (.tup [V.int (d.g.worth y.2 : Nat), V.int (d.giver.worth y.2 : Nat)]) tq = some (.tup [V.int (d.g.worth y.2 : Nat), V.int (d.giver.worth y.2 : Nat)]) := upd_same
      generalize upd H5 tq (.tup [V.int (d.g.worth y.2 : Nat), V.int (d.giver.worth y.2 : Nat)]) = H6 at s6 l6 ⊢
      refine ⟨rfl, ?_⟩
      unfold tYes
      refine iteT ⟨_, rfl, _, rfl, .tuple [.int (d.g.worth y.2 : Nat), .int (d.giver.worth y.2 : Nat)], .tuple [.int (MA : Nat), .int (MB : Nat)], .tup (SqT.of l6) (.cons (.int _) (.cons (.int _) .nil)), .tup (SqT.of (s6 _ _ (s5 _ _ l4))) (.cons (.int _) (.cons (.int _) .nil)), rfl, rfl, ?_⟩
      rw [eqv_two]
      refine ⟨_, s6 _ _ hD5, ?_, same_put (s5.trans s6) hD1, ?_⟩
      · rw [List.length_map, List.length_take]
        have := rs.len
        have h2 : 800 < sizeLine := by decide
        omega
      · rw [upd_same, List.take_add_one, ey, List.map_append]
        rfl
    · rintro H5 ⟨s5, hD5⟩
      rw [List.take_length] at hD5
      refine ⟨D1, ts.map fun q => decide (d.g.worth q.2 = MA) && decide (d.giver.worth q.2 = MB), rfl, ?_, _, rfl, ?_⟩
      · rw [List.map_map]
        exact SqL.of hD5
      · have eb : (ts.map fun q => decide (d.g.worth q.2 = MA) && decide (d.giver.worth q.2 = MB)).any id = d.rests.any fun p => decide (d.g.worth p = MA) && decide (d.giver.worth p = MB) := by
          rw [← rs.eq, List.any_map, List.any_map]
          rfl
        rw [eb]
        show if (d.rests.any fun p => decide (d.g.worth p = MA) && decide (d.giver.worth p = MB)) = true then _ else _
        cases c : d.rests.any fun p => decide (d.g.worth p = MA) && decide (d.giver.worth p = MB) with
        | true =>
          rw [c] at q
          exact iteT ⟨(by show 1 ≤ sizeLine; decide), fun p hp => q _ _ (After.read fr dk0 (s14.trans s5) hp rfl)⟩
        | false =>
          rw [c] at q
          exact iteF ⟨(by show 1 ≤ sizeLine; decide), fun p hp => q _ _ (After.read fr dk0 (s14.trans s5) hp rfl)⟩

theorem ok_tcost (T : Txt K mg C) (D : Dfn K mg "tell_cost" sTCost) (Gb : Has P w K mg base 4 "best_to_actor" (spBestA C)) (Gp : Has P w K mg base 6 "plans_at_rest" (spPlans C)) (Gs : Has P w K mg base 3 "worths_by" (spWorths C)) : Has P w K mg base 7 "tell_cost" (spAsk C (fun _ => .cost) fun _ => True) := by
  refine D.has scTCost ?_ (fun _ _ _ _ _ _ us hl => match us, hl with | [_, _], _ => rfl) ?_
  · rintro vs H Q E ⟨G, L, a, d, r, l, rfl, _⟩
    rfl
  · rintro f cdv A0 outer s0 H vs Q E hr ⟨G, L, a, d, r, l, rfl, fr, dk, hrow, gr, rL, hl, _, q⟩
    have dk0 := dk
    obtain ⟨A, rfl, t, o, hw, np, nn, ng, nd⟩ := dk
    refine ⟨_, pss_one (ps_ret (pe_lst (pa_cons (pe_op op_sub (pe_h Gb hr (by decide) (by rfl) (pa_cons (pv 0) pa_nil)) (pe_callB (cr_max rfl) (by rfl) T.mmax (by decide +kernel) (pa_cons
      (pe_h Gs hr (by decide) (by rfl) (pa_cons (pv 0) (pa_cons (pe_fld (pv 0) rfl) (pa_cons (pe_h Gp hr (by decide) (by rfl) (pa_cons (pv 0) pa_nil)) pa_nil)))) pa_nil))) pa_nil))), ?_⟩
    refine ⟨_, rfl, A, d, rfl, t, o, fun H1 s1 => ?_⟩
    have t1 := t.same s1
    refine ⟨_, rfl, _, rfl, A.a, C, A.x, _, _, rfl, t1.ins, T.cl, T.nP, tf_pays, _, rfl, A, d, rfl, t1, o, fun H2 F ts s2 R e => ?_⟩
    have rs := rests_of o e
    have t2 := t1.same s2
    refine ⟨A, d, A.p, d.g.pays, F, ts, rfl, t2, o, t2.p, o.p, R, rs.mem, rs.len, fun H3 pa s3 _ ha3 => ?_⟩
    have ha3 : H3 pa = some (.lst (vi (ts.map fun q => d.g.worth q.2))) := ha3
    have asI : ((ts.map fun q => d.g.worth q.2).map (fun (x : Nat) => (x : Int))).map V.int = vi (ts.map fun q => d.g.worth q.2) := by
      rw [vi_ints]
      rfl
    refine ⟨pa, (ts.map fun q => d.g.worth q.2).map (fun (x : Nat) => (x : Int)), rfl, (by rw [asI]; exact SqL.of ha3), (by rw [List.length_map, List.length_map]; exact rs.ne), fun z hz hle => ?_⟩
    have ez := mx_int hz hle
    subst ez
    refine ⟨_, _, rfl, rfl, (by show 1 ≤ sizeLine; decide), fun p hp => q _ _ (After.read fr dk0 ((s1.trans s2).trans s3) hp ?_)⟩
    have em : mx (ts.map fun q => d.g.worth q.2) = mx (d.rests.map d.g.worth) := by
      rw [← rs.eq, List.map_map]
      rfl
    have h := rests_le o
    show [V.int (((mx ((Krcj.rows d.g.m d.g.n).map (mostA d)) : Nat) : Int) - ((mx (ts.map fun q => d.g.worth q.2) : Nat) : Int))] = [V.int ((d.g.worth d.g.best - mx (d.rests.map d.g.worth) : Nat) : Int)]
    rw [em, best_eq o, Int.ofNat_sub h]

theorem ok_tstate (T : Txt K mg C) (D : Dfn K mg "tell_state" sTState) : Has P w K mg base 1 "tell_state" (spAsk C (fun _ => .state) fun _ => True) := by
  refine D.has scTState ?_ (fun _ _ _ _ _ _ us hl => match us, hl with | [_, _], _ => rfl) ?_
  · rintro vs H Q E ⟨G, L, a, d, r, l, rfl, _⟩
    rfl
  · rintro f cdv A0 outer s0 H vs Q E hr ⟨G, L, a, d, r, l, rfl, fr, dk, hrow, gr, rL, hl, _, q⟩
    have dk0 := dk
    obtain ⟨A, rfl, t, o, hw, np, nn, ng, nd⟩ := dk
    refine ⟨_, pss_cons (ps_set (i := 2) scTState.nd rfl (Or.inl rfl) (pe_lst (pa_cons (pe_fld (pv 0) rfl) (pa_cons (pe_fld (pv 0) rfl) (pa_cons (pe_fld (pv 0) rfl) pa_nil)))))
      (pss_one (ps_ret (pe_op op_cat (pe_op op_cat (pe_op op_cat (pe_op op_cat (pe_op op_cat (pv 2) (pe_fld (pv 0) rfl)) (pe_fld (pv 0) rfl)) (pe_fld (pv 0) rfl)) (pe_fld (pv 0) rfl)) (pe_fld (pv 0) rfl)))), ?_⟩
    have big : 60 < sizeLine := by decide
    have hn := o.n3
    have hm := o.m3
    have hnk : d.g.n * d.g.k ≤ 3 * 3 := Nat.mul_le_mul o.n3 o.k3
    have lw := o.w
    have lp := o.p.1
    have ln := o.n.1
    have lg := o.g.1
    have ld := o.d.1
    refine ⟨_, rfl, A.a, C, A.x, _, _, rfl, t.ins, T.cl, T.nN, tf_ways, _, rfl, A.a, C, A.x, _, _, rfl, t.ins, T.cl, T.nM, tf_signs, _, rfl, A.a, C, A.x, _, _, rfl, t.ins, T.cl, T.nK, tf_acts, (by show 3 ≤ sizeLine; omega), fun u0 h0 => ?_⟩
    have k0 : Same H (upd H u0 (.lst [V.int (d.g.n : Nat), V.int (d.g.m : Nat), V.int (d.g.k : Nat)])) := same_new h0
    have l0 : upd H u0 (.lst [V.int (d.g.n : Nat), V.int (d.g.m : Nat), V.int (d.g.k : Nat)]) u0 = some (.lst (vi [d.g.n, d.g.m, d.g.k])) := upd_same
    generalize upd H u0 (.lst [V.int (d.g.n : Nat), V.int (d.g.m : Nat), V.int (d.g.k : Nat)]) = H0 at k0 l0 ⊢
    refine ⟨_, rfl, _, rfl, A.a, C, A.x, _, _, rfl, (t.same k0).ins, T.cl, T.nW, tf_weights, u0, A.w, _, _, rfl, rfl, l0, k0 _ _ t.w, ?_, fun u1 h1 => ?_⟩
    · rw [vi_len, vi_len]
      show 3 + d.g.weights.length ≤ sizeLine
      omega
    rw [← vi_app]
    have z1 : Same H0 (upd H0 u1 (.lst (vi ([d.g.n, d.g.m, d.g.k] ++ d.g.weights)))) := same_new h1
    have l1 : upd H0 u1 (.lst (vi ([d.g.n, d.g.m, d.g.k] ++ d.g.weights))) u1 = some (.lst (vi ([d.g.n, d.g.m, d.g.k] ++ d.g.weights))) := upd_same
    have k1 := k0.trans z1
    generalize upd H0 u1 (.lst (vi ([d.g.n, d.g.m, d.g.k] ++ d.g.weights))) = H1 at z1 l1 k1 ⊢
    refine ⟨_, rfl, A.a, C, A.x, _, _, rfl, (t.same k1).ins, T.cl, T.nP, tf_pays, u1, A.p, _, _, rfl, rfl, l1, k1 _ _ t.p, ?_, fun u2 h2 => ?_⟩
    · rw [vi_len, vi_len]
      rw [List.length_append]
      show 3 + d.g.weights.length + d.g.pays.length ≤ sizeLine
      omega
    rw [← vi_app]
    have z2 : Same H1 (upd H1 u2 (.lst (vi (([d.g.n, d.g.m, d.g.k] ++ d.g.weights) ++ d.g.pays)))) := same_new h2
    have l2 : upd H1 u2 (.lst (vi (([d.g.n, d.g.m, d.g.k] ++ d.g.weights) ++ d.g.pays))) u2 = some (.lst (vi (([d.g.n, d.g.m, d.g.k] ++ d.g.weights) ++ d.g.pays))) := upd_same
    have k2 := k1.trans z2
    generalize upd H1 u2 (.lst (vi (([d.g.n, d.g.m, d.g.k] ++ d.g.weights) ++ d.g.pays))) = H2 at z2 l2 k2 ⊢
    refine ⟨_, rfl, A.a, C, A.x, _, _, rfl, (t.same k2).ins, T.cl, T.nA, tf_wants, u2, A.n, _, _, rfl, rfl, l2, k2 _ _ t.n, ?_, fun u3 h3 => ?_⟩
    · rw [vi_len, vi_len]
      rw [List.length_append, List.length_append]
      show 3 + d.g.weights.length + d.g.pays.length + d.wants.length ≤ sizeLine
      omega
    rw [← vi_app]
    have z3 : Same H2 (upd H2 u3 (.lst (vi ((([d.g.n, d.g.m, d.g.k] ++ d.g.weights) ++ d.g.pays) ++ d.wants)))) := same_new h3
    have l3 : upd H2 u3 (.lst (vi ((([d.g.n, d.g.m, d.g.k] ++ d.g.weights) ++ d.g.pays) ++ d.wants))) u3 = some (.lst (vi ((([d.g.n, d.g.m, d.g.k] ++ d.g.weights) ++ d.g.pays) ++ d.wants))) := upd_same
    have k3 := k2.trans z3
    generalize upd H2 u3 (.lst (vi ((([d.g.n, d.g.m, d.g.k] ++ d.g.weights) ++ d.g.pays) ++ d.wants))) = H3 at z3 l3 k3 ⊢
    refine ⟨_, rfl, A.a, C, A.x, _, _, rfl, (t.same k3).ins, T.cl, T.nG, tf_given, u3, A.g, _, _, rfl, rfl, l3, k3 _ _ t.g, ?_, fun u4 h4 => ?_⟩
    · rw [vi_len, vi_len]
      rw [List.length_append, List.length_append, List.length_append]
      show 3 + d.g.weights.length + d.g.pays.length + d.wants.length + d.p.send.length ≤ sizeLine
      omega
    rw [← vi_app]
    have z4 : Same H3 (upd H3 u4 (.lst (vi (((([d.g.n, d.g.m, d.g.k] ++ d.g.weights) ++ d.g.pays) ++ d.wants) ++ d.p.send)))) := same_new h4
    have l4 : upd H3 u4 (.lst (vi (((([d.g.n, d.g.m, d.g.k] ++ d.g.weights) ++ d.g.pays) ++ d.wants) ++ d.p.send))) u4 = some (.lst (vi (((([d.g.n, d.g.m, d.g.k] ++ d.g.weights) ++ d.g.pays) ++ d.wants) ++ d.p.send))) := upd_same
    have k4 := k3.trans z4
    generalize upd H3 u4 (.lst (vi (((([d.g.n, d.g.m, d.g.k] ++ d.g.weights) ++ d.g.pays) ++ d.wants) ++ d.p.send))) = H4 at z4 l4 k4 ⊢
    refine ⟨_, rfl, A.a, C, A.x, _, _, rfl, (t.same k4).ins, T.cl, T.nD, tf_done, u4, A.d, _, _, rfl, rfl, l4, k4 _ _ t.d, ?_, fun u5 h5 => ?_⟩
    · rw [vi_len, vi_len]
      rw [List.length_append, List.length_append, List.length_append, List.length_append]
      show 3 + d.g.weights.length + d.g.pays.length + d.wants.length + d.p.send.length + d.p.act.length ≤ sizeLine
      omega
    rw [← vi_app]
    refine q _ _ (After.read fr dk0 k4 h5 ?_)
    rw [vi_ints]
    rfl
end
end Tw

set_option maxRecDepth 100000
set_option maxHeartbeats 2000000
namespace Tw
open PySem PySem.Spec PyProof.Rows L2
open Krcj (Game Plan)
open Krcm (Desk)

/-- what's paid at the beginning -/
def pp (n k : Nat) : List Nat := (List.range n).flatMap fun s => (List.range k).map fun a => if s = a then 1 else 0
theorem pp_ok (n k : Nat) : RowOk (pp n k) (n * k) 10 := by
  constructor
  · unfold pp
    have h : ∀ l : List Nat, (l.flatMap fun s => (List.range k).map fun a => if s = a then 1 else 0).length = l.length * k := by
      intro l
      induction l with
      | nil => simp
      | cons x l ih => rw [List.flatMap_cons, List.length_append, ih, List.length_map, List.length_range, List.length_cons, Nat.succ_mul, Nat.add_comm]
    rw [h, List.length_range]
  · intro x hx
    obtain ⟨s, _, h⟩ := List.mem_flatMap.mp hx
    obtain ⟨a, _, rfl⟩ := List.mem_map.mp h
    split <;> decide
theorem vi_one (x : Nat) : vi [x] = [V.int (x : Int)] := rfl

/-- the object that is being made: what stands else stays -/
structure Mkg (C x a : Addr) (H H' : Hp) (fs : List (Str × V)) : Prop where
  ins : H' a = some (.ins C x fs)
  but : But a H H'
theorem Mkg.put {C x a : Addr} {H H' : Hp} {fs fs' : List (Str × V)} (m : Mkg C x a H H' fs) : Mkg C x a H (upd H' a (.ins C x fs')) fs' :=
  ⟨upd_same, m.but.trans But.put⟩
theorem Mkg.same {C x a : Addr} {H H' H2 : Hp} {fs : List (Str × V)} (m : Mkg C x a H H' fs) (s : Same H' H2) : Mkg C x a H H2 fs :=
  ⟨s _ _ m.ins, m.but.trans (but_of s)⟩

section
variable {P : Program} {w : World} {K : PySem.W.Frag} {mg : Str → Option Value} {base : Heap} {C : Addr}

/-! plain_pays(ways, acts) -/
abbrev sPlain : Stmt := top 54
theorem scPlain : FnScope ["ways", "acts", "numbers", "way", "act"] ["ways", "acts"] (defScope sPlain) := ⟨rfl, rfl, rfl, by decide +kernel, rfl, by decide +kernel, by decide +kernel⟩
def spPlain : Sp := fun vs H Q _ => ∃ (n k : Nat), vs = [.int n, .int k] ∧ n ≤ 3 ∧ k ≤ 3 ∧ ∀ (H' : Hp) (p : Addr), Same H H' → H p = none → H' p = some (.lst (vi (pp n k))) → Q (.ref p) H'
theorem ok_plain (T : Txt K mg C) (D : Dfn K mg "plain_pays" sPlain) : Has P w K mg base 1 "plain_pays" spPlain := by
  refine D.has scPlain ?_ (fun _ _ _ _ _ _ us hl => match us, hl with | [_, _], _ => rfl) ?_
  · rintro vs H Q E ⟨n, k, rfl, _⟩
    rfl
  · rintro f cdv A0 outer s0 H vs Q E hr ⟨n, k, rfl, hn, hk, q⟩
    refine ⟨_, pss_cons (ps_set (i := 2) scPlain.nd rfl (Or.inl rfl) (pe_lst pa_nil))
      (pss_cons (ps_for PassesOwn.never rfl (pi_range1 (by rfl) T.mrange (pa_cons (pv 0) pa_nil)) (pg_name (i := 3) scPlain.nd rfl (Or.inl rfl))
        (pss_one (ps_for PassesOwn.never rfl (pi_range1 (by rfl) T.mrange (pa_cons (pv 1) pa_nil)) (pg_name (i := 4) scPlain.nd rfl (Or.inl rfl))
          (pss_one (ps_expr (pe_bm PySem.F.plainAttrs_list PySem.F.slot_list_append PySem.F.type_list_append mt_append (pv 2) (pa_cons (pe_ifExp (pt_cmpR op_eq (pv 3) (pv 4) (nomark _)) pe_int pe_int) pa_nil)))))))
      (pss_one (ps_ret (pv 2)))), ?_⟩
    refine ⟨Nat.zero_le _, fun L hL => ⟨_, rfl, _, rfl, by omega, by omega, ?_⟩⟩
    refine for_range (lo := 0) (n := n) (fun i σ H' => ∃ v3 v4 : Option V, σ = [some (.int n), some (.int k), some (.ref L), v3, v4] ∧ Same H H' ∧ H' L = some (.lst (vi (pp i k)))) ⟨none, none, rfl, same_new hL, upd_same⟩ ?_ ?_
    · rintro i σ H1 hi ⟨v3, v4, rfl, s1, h1⟩
      refine ⟨_, rfl, _, rfl, by omega, by omega, ?_⟩
      refine for_range (lo := 0) (n := k) (fun j σ H' => ∃ v4 : Option V, σ = [some (.int n), some (.int k), some (.ref L), some (.int ((0 : Int) + (i : Nat))), v4] ∧ Same H H' ∧
          H' L = some (.lst (vi (pp i k ++ (List.range j).map fun a => if i = a then 1 else 0)))) ⟨v4, rfl, s1, by rw [List.range_zero, List.map_nil, List.append_nil]; exact h1⟩ ?_ ?_
      · rintro j σ H2 hj ⟨v4, rfl, s2, h2⟩
        have hlen : (vi (pp i k ++ (List.range j).map fun a => if i = a then 1 else 0)).length < sizeLine := by
          rw [vi_len, List.length_append, (pp_ok i k).1, List.length_map, List.length_range]
          have : i * k ≤ 3 * 3 := Nat.mul_le_mul (by omega) hk
          have h3 : 12 < sizeLine := by decide
          omega
        have step : ∀ x : Nat, x = (if i = j then 1 else 0) → ∃ v4' : Option V, [some (V.int n), some (.int k), some (.ref L), some (.int ((0 : Int) + (i : Nat))), some (.int ((0 : Int) + (j : Nat)))] = [some (.int n), some (.int k), some (.ref L), some (.int ((0 : Int) + (i : Nat))), v4'] ∧
            Same H (upd H2 L (.lst (vi (pp i k ++ (List.range j).map fun a => if i = a then 1 else 0) ++ [V.int (x : Nat)]))) ∧
            upd H2 L (.lst (vi (pp i k ++ (List.range j).map fun a => if i = a then 1 else 0) ++ [V.int (x : Nat)])) L = some (.lst (vi (pp i k ++ (List.range (j + 1)).map fun a => if i = a then 1 else 0))) := by
          rintro x rfl
          refine ⟨_, rfl, same_put s2 hL, ?_⟩
          rw [upd_same, List.range_succ, List.map_append, ← List.append_assoc, vi_app _ (List.map _ [j])]
          rfl
        refine ⟨_, rfl, .inl ⟨rfl, _, SqL.of h2⟩, _, rfl, _, rfl, rfl, _, rfl, ?_⟩
        show if decide (V.int ((0 : Int) + (i : Nat)) = V.int ((0 : Int) + (j : Nat))) = true then _ else _
        by_cases c : i = j
        · rw [decide_eq_true (by rw [c])]
          exact iteT ⟨L, _, _, rfl, rfl, h2, hlen, step 1 (by rw [if_pos c])⟩
        · rw [decide_eq_false (by intro e; injection e with e; omega)]
          exact iteF ⟨L, _, _, rfl, rfl, h2, hlen, step 0 (by rw [if_neg c])⟩
      · rintro σ H2 ⟨v4, rfl, s2, h2⟩
        refine ⟨_, _, rfl, s2, ?_⟩
        rw [h2]
        unfold pp
        rw [List.range_succ, List.flatMap_append]
        simp
    · rintro σ H1 ⟨v3, v4, rfl, s1, h1⟩
      exact ⟨_, rfl, q _ _ s1 hL h1⟩

/-! Table.__init__(self) -/
abbrev sInit : Stmt := inClass (top 55) 0
theorem scInit : FnScope ["self"] ["self"] (defScope sInit) := ⟨rfl, rfl, rfl, by decide +kernel, rfl, by decide +kernel, by decide +kernel⟩
def spInit (C : Addr) : Sp := fun vs H Q _ => ∃ (a x : Addr), vs = [.ref a] ∧ H a = some (.ins C x []) ∧
  ∀ (H' : Hp) (aw ap an ag ad : Addr), Mkg C x a H H' (tf false 0 0 0 aw ap an ag ad) → Q .non H'
theorem ok_init {f : Addr} {fd : FuncData} (T : Txt K mg C) (F : Fun K "__init__" "Table.__init__" sInit f fd) : FnOk P w K mg base CX0 1 f fd ["self"] (spInit C) := by
  refine F.ok scInit (fun vs H Q E h => ?_) (fun cdv A0 outer s0 H vs Q E hr h => ?_)
  · obtain ⟨a, x, rfl, _⟩ := h
    rfl
  · obtain ⟨a, x, rfl, ha, q⟩ := h
    refine ⟨_, pss_cons (ps_fld (pv 0) pe_bl rfl) (pss_cons (ps_fld (pv 0) pe_int rfl) (pss_cons (ps_fld (pv 0) pe_int rfl) (pss_cons (ps_fld (pv 0) pe_int rfl)
      (pss_cons (ps_fld (pv 0) (pe_lst pa_nil) rfl) (pss_cons (ps_fld (pv 0) (pe_lst pa_nil) rfl) (pss_cons (ps_fld (pv 0) (pe_lst pa_nil) rfl) (pss_cons (ps_fld (pv 0) (pe_lst pa_nil) rfl) (pss_one (ps_fld (pv 0) (pe_lst pa_nil) rfl))))))))), ?_⟩
    have few : ∀ {n : Nat}, n ≤ 9 → n < 1000 := fun h => Nat.lt_of_le_of_lt h (by decide)
    have m0 : Mkg C x a H H [] := ⟨ha, fun _ _ _ h => h⟩
    refine ⟨_, rfl, a, C, x, _, rfl, m0.ins, T.cl, T.nB, few (by decide), ?_⟩
    have m1 := m0.put (fs' := putF "begun" (.bl false) [])
    refine ⟨_, rfl, a, C, x, _, rfl, m1.ins, T.cl, T.nN, few (by decide), ?_⟩
    have m2 := m1.put (fs' := putF "ways" (.int 0) (putF "begun" (.bl false) []))
    refine ⟨_, rfl, a, C, x, _, rfl, m2.ins, T.cl, T.nM, few (by decide), ?_⟩
    have m3 := m2.put (fs' := putF "signs" (.int 0) (putF "ways" (.int 0) (putF "begun" (.bl false) [])))
    refine ⟨_, rfl, a, C, x, _, rfl, m3.ins, T.cl, T.nK, few (by decide), ?_⟩
    have m4 := m3.put (fs' := putF "acts" (.int 0) (putF "signs" (.int 0) (putF "ways" (.int 0) (putF "begun" (.bl false) []))))
    refine ⟨Nat.zero_le _, fun aw hw => ⟨_, rfl, a, C, x, _, rfl, (m4.same (same_new hw)).ins, T.cl, T.nW, few (by decide), ?_⟩⟩
    have m5 := (m4.same (same_new (o := .lst []) hw)).put (fs' := putF "weights" (.ref aw) (putF "acts" (.int 0) (putF "signs" (.int 0) (putF "ways" (.int 0) (putF "begun" (.bl false) [])))))
    refine ⟨Nat.zero_le _, fun ap hp => ⟨_, rfl, a, C, x, _, rfl, (m5.same (same_new hp)).ins, T.cl, T.nP, few (by show 5 ≤ 9; decide), ?_⟩⟩
    have m6 := (m5.same (same_new (o := .lst []) hp)).put (fs' := putF "pays" (.ref ap) (putF "weights" (.ref aw) (putF "acts" (.int 0) (putF "signs" (.int 0) (putF "ways" (.int 0) (putF "begun" (.bl false) []))))))
    refine ⟨Nat.zero_le _, fun an hn => ⟨_, rfl, a, C, x, _, rfl, (m6.same (same_new hn)).ins, T.cl, T.nA, few (by show 6 ≤ 9; decide), ?_⟩⟩
    have m7 := (m6.same (same_new (o := .lst []) hn)).put (fs' := putF "wants" (.ref an) (putF "pays" (.ref ap) (putF "weights" (.ref aw) (putF "acts" (.int 0) (putF "signs" (.int 0) (putF "ways" (.int 0) (putF "begun" (.bl false) [])))))))
    refine ⟨Nat.zero_le _, fun ag hg => ⟨_, rfl, a, C, x, _, rfl, (m7.same (same_new hg)).ins, T.cl, T.nG, few (by show 7 ≤ 9; decide), ?_⟩⟩
    have m8 := (m7.same (same_new (o := .lst []) hg)).put (fs' := putF "given" (.ref ag) (putF "wants" (.ref an) (putF "pays" (.ref ap) (putF "weights" (.ref aw) (putF "acts" (.int 0) (putF "signs" (.int 0) (putF "ways" (.int 0) (putF "begun" (.bl false) []))))))))
    refine ⟨Nat.zero_le _, fun ad hd => ⟨_, rfl, a, C, x, _, rfl, (m8.same (same_new hd)).ins, T.cl, T.nD, few (by show 8 ≤ 9; decide), ?_⟩⟩
    have m9 := (m8.same (same_new (o := .lst []) hd)).put (fs' := tf false 0 0 0 aw ap an ag ad)
    exact q _ aw ap an ag ad m9
end
end Tw

set_option maxRecDepth 100000
set_option maxHeartbeats 2000000
namespace Tw
open PySem PySem.Spec PyProof.Rows L2
open Krcj (Game Plan)
open Krcm (Desk)

section
variable {b : Bool} {n m k z : Int} {c : Bool} {aw ap an ag ad r : Addr}
theorem tf_put_begun : putF "begun" (.bl c) (tf b n m k aw ap an ag ad) = tf c n m k aw ap an ag ad := rfl
theorem tf_put_ways : putF "ways" (.int z) (tf b n m k aw ap an ag ad) = tf b z m k aw ap an ag ad := rfl
theorem tf_put_signs : putF "signs" (.int z) (tf b n m k aw ap an ag ad) = tf b n z k aw ap an ag ad := rfl
theorem tf_put_acts : putF "acts" (.int z) (tf b n m k aw ap an ag ad) = tf b n m z aw ap an ag ad := rfl
theorem tf_put_weights : putF "weights" (.ref r) (tf b n m k aw ap an ag ad) = tf b n m k r ap an ag ad := rfl
end
theorem Mkg.free {C x a : Addr} {H H' : Hp} {fs : List (Str × V)} (m : Mkg C x a H H' fs) {p : Addr} (h : H' p = none) : H p = none ∧ p ≠ a := by
  have pa : p ≠ a := fun e => by rw [e, m.ins] at h; cases h
  refine ⟨?_, pa⟩
  cases e : H p with
  | none => rfl
  | some o =>
    rw [m.but p o pa e] at h
    cases h
theorem rep_one (n x : Nat) : (List.replicate n [V.int (x : Int)]).flatten = vi (List.replicate n x) := by
  induction n with
  | zero => rfl
  | succ n ih =>
    rw [List.replicate_succ, List.flatten_cons, ih, List.replicate_succ]
    rfl
theorem act_begin_no {x : Option Desk} {n m k : Nat} (h : ¬ (1 ≤ n ∧ n ≤ 3 ∧ 1 ≤ m ∧ m ≤ 3 ∧ 1 ≤ k ∧ k ≤ 3)) : Krcm.act x (.begin_ n m k) = (x, Krcj.say (-22)) := by
  have e : (!Krcj.eachOk n || !Krcj.eachOk m || !Krcj.eachOk k) = true := by
    unfold Krcj.eachOk Krcj.mostEach
    rw [Bool.eq_iff_iff]
    simp only [Bool.or_eq_true, Bool.not_eq_true', Bool.and_eq_false_iff, decide_eq_false_iff_not, iff_true]
    omega
  simp only [Krcm.act, Krcj.act, e, if_true]
def newDesk (n m k : Nat) : Desk := ⟨⟨n, m, k, List.replicate n 1, pp n k⟩, pp n k, ⟨List.replicate n 0, List.replicate m 0⟩⟩
theorem act_begin_yes {x : Option Desk} {n m k : Nat} (h : 1 ≤ n ∧ n ≤ 3 ∧ 1 ≤ m ∧ m ≤ 3 ∧ 1 ≤ k ∧ k ≤ 3) : Krcm.act x (.begin_ n m k) = (some (newDesk n m k), Krcj.say 0) := by
  have e : ¬ (!Krcj.eachOk n || !Krcj.eachOk m || !Krcj.eachOk k) = true := by
    unfold Krcj.eachOk Krcj.mostEach
    simp only [Bool.or_eq_true, Bool.not_eq_true', Bool.and_eq_false_iff, decide_eq_false_iff_not]
    omega
  simp only [Krcm.act, Krcj.act, if_neg e]
  rfl
theorem newDesk_ok {n m k : Nat} (h : 1 ≤ n ∧ n ≤ 3 ∧ 1 ≤ m ∧ m ≤ 3 ∧ 1 ≤ k ∧ k ≤ 3) : Ok (newDesk n m k) := by
  obtain ⟨h1, h2, h3, h4, h5, h6⟩ := h
  refine ⟨h1, h2, h3, h4, h5, h6, List.length_replicate, fun y hy => ?_, pp_ok n k, pp_ok n k, row_rep h3, row_rep h5⟩
  rw [(List.mem_replicate.mp hy).2]
  decide

section
variable {P : Program} {w : World} {K : PySem.W.Frag} {mg : Str → Option Value} {base : Heap} {C : Addr}

/-! Table.begin(self, ways, signs, acts) -/
abbrev sTBegin : Stmt := inClass (top 55) 1
theorem scTBegin : FnScope ["self", "ways", "signs", "acts"] ["self", "ways", "signs", "acts"] (defScope sTBegin) := ⟨rfl, rfl, rfl, by decide +kernel, rfl, by decide +kernel, by decide +kernel⟩
def spTBegin (C : Addr) : Sp := fun vs H Q _ => ∃ (a x : Addr) (b0 : Bool) (n0 m0 k0 : Int) (w0 p0 q0 g0 d0 : Addr) (n m k : Nat), vs = [.ref a, .int n, .int m, .int k] ∧ H a = some (.ins C x (tf b0 n0 m0 k0 w0 p0 q0 g0 d0)) ∧ n ≤ 3 ∧ m ≤ 3 ∧ k ≤ 3 ∧
  ∀ (H' : Hp) (A : Ads), A.a = a → But a H H' → Tab C H' A (newDesk n m k) → H A.w = none → H A.p = none → H A.n = none → H A.g = none → H A.d = none → Q .non H'
theorem ok_tbegin {f : Addr} {fd : FuncData} (T : Txt K mg C) (F : Fun K "begin" "Table.begin" sTBegin f fd) (Gp : Has P w K mg base 1 "plain_pays" spPlain) : FnOk P w K mg base CX0 2 f fd ["self", "ways", "signs", "acts"] (spTBegin C) := by
  refine F.ok scTBegin (fun vs H Q E h => ?_) (fun cdv A0 outer s0 H vs Q E hr h => ?_)
  · obtain ⟨a, x, b0, n0, m0, k0, w0, p0, q0, g0, d0, n, m, k, rfl, _⟩ := h
    rfl
  · obtain ⟨a, x, b0, n0, m0, k0, w0, p0, q0, g0, d0, n, m, k, rfl, ha, hn, hm, hk, q⟩ := h
    refine ⟨_, pss_cons (ps_fld (pv 0) pe_bl rfl) (pss_cons (ps_fld (pv 0) (pv 1) rfl) (pss_cons (ps_fld (pv 0) (pv 2) rfl) (pss_cons (ps_fld (pv 0) (pv 3) rfl)
      (pss_cons (ps_fld (pv 0) (pe_op op_rep (pe_lst (pa_cons pe_int pa_nil)) (pv 1)) rfl)
      (pss_cons (ps_fld (pv 0) (pe_h Gp hr (by decide) (by rfl) (pa_cons (pv 1) (pa_cons (pv 3) pa_nil))) rfl)
      (pss_cons (ps_fld (pv 0) (pe_h Gp hr (by decide) (by rfl) (pa_cons (pv 1) (pa_cons (pv 3) pa_nil))) rfl)
      (pss_cons (ps_fld (pv 0) (pe_op op_rep (pe_lst (pa_cons pe_int pa_nil)) (pv 1)) rfl)
      (pss_one (ps_fld (pv 0) (pe_op op_rep (pe_lst (pa_cons pe_int pa_nil)) (pv 2)) rfl))))))))), ?_⟩
    have few : 9 < 1000 := by decide
    have one : 1 ≤ sizeLine := by decide
    have big : 3 ≤ sizeLine := by decide
    have m0' : Mkg C x a H H (tf b0 n0 m0 k0 w0 p0 q0 g0 d0) := ⟨ha, fun _ _ _ h => h⟩
    refine ⟨_, rfl, a, C, x, _, rfl, m0'.ins, T.cl, T.nB, few, ?_⟩
    rw [tf_put_begun]
    have m1 := m0'.put (fs' := tf true n0 m0 k0 w0 p0 q0 g0 d0)
    refine ⟨_, rfl, _, rfl, a, C, x, _, rfl, m1.ins, T.cl, T.nN, few, ?_⟩
    rw [tf_put_ways]
    have m2 := m1.put (fs' := tf true n m0 k0 w0 p0 q0 g0 d0)
    refine ⟨_, rfl, _, rfl, a, C, x, _, rfl, m2.ins, T.cl, T.nM, few, ?_⟩
    rw [tf_put_signs]
    have m3 := m2.put (fs' := tf true n m k0 w0 p0 q0 g0 d0)
    refine ⟨_, rfl, _, rfl, a, C, x, _, rfl, m3.ins, T.cl, T.nK, few, ?_⟩
    rw [tf_put_acts]
    have m4 := m3.put (fs' := tf true n m k w0 p0 q0 g0 d0)
    generalize upd _ a (HO.ins C x (tf true n m k w0 p0 q0 g0 d0)) = H4 at m4 ⊢
    -- weights
    refine ⟨one, fun u1 hu1 => ⟨_, rfl, u1, _, _, rfl, rfl, upd_same, by omega, by omega, ?_, fun w1 hw1 => ?_⟩⟩
    · show 1 * ((n : Nat) : Int).toNat ≤ sizeLine
      rw [Nat.one_mul, Int.toNat_natCast]
      omega
    have e1 : (List.replicate ((n : Nat) : Int).toNat [V.int 1]).flatten = vi (List.replicate n 1) := by
      rw [Int.toNat_natCast]
      exact rep_one n 1
    rw [e1]
    have s5 : Same H4 (upd (upd H4 u1 (.lst [V.int 1])) w1 (.lst (vi (List.replicate n 1)))) := same_put (same_new hu1) ((same_new hu1).free hw1)
    have m5 := m4.same s5
    have f5 := m4.free ((same_new hu1).free hw1)
    have l5 : (upd (upd H4 u1 (.lst [V.int 1])) w1 (.lst (vi (List.replicate n 1)))) w1 = some (.lst (vi (List.replicate n 1))) := upd_same
    generalize upd (upd H4 u1 (.lst [V.int 1])) w1 (.lst (vi (List.replicate n 1))) = H5 at m5 l5 ⊢
    refine ⟨_, rfl, a, C, x, _, rfl, m5.ins, T.cl, T.nW, few, ?_⟩
    rw [tf_put_weights]
    have m6 := m5.put (fs' := tf true n m k w1 p0 q0 g0 d0)
    have l6 : (upd H5 a (.ins C x (tf true n m k w1 p0 q0 g0 d0))) w1 = some (.lst (vi (List.replicate n 1))) := by rw [upd_ne f5.2]; exact l5
    generalize upd H5 a (.ins C x (tf true n m k w1 p0 q0 g0 d0)) = H6 at m6 l6 ⊢
    -- pays
    refine ⟨_, rfl, _, rfl, n, k, rfl, hn, hk, fun H7 p1 s7 hp1 lp7 => ?_⟩
    have m7 := m6.same s7
    have fp := m6.free hp1
    have wp : w1 ≠ p1 := ne_of_none l6 hp1
    refine ⟨_, rfl, a, C, x, _, rfl, m7.ins, T.cl, T.nP, few, ?_⟩
    rw [tf_put_pays]
    have m8 := m7.put (fs' := tf true n m k w1 p1 q0 g0 d0)
    have l8 : (upd H7 a (.ins C x (tf true n m k w1 p1 q0 g0 d0))) w1 = some (.lst (vi (List.replicate n 1))) := by rw [upd_ne f5.2]; exact s7 _ _ l6
    have lp8 : (upd H7 a (.ins C x (tf true n m k w1 p1 q0 g0 d0))) p1 = some (.lst (vi (pp n k))) := by rw [upd_ne fp.2]; exact lp7
    generalize upd H7 a (.ins C x (tf true n m k w1 p1 q0 g0 d0)) = H8 at m8 l8 lp8 ⊢
    -- wants
    refine ⟨_, rfl, _, rfl, n, k, rfl, hn, hk, fun H9 q1 s9 hq1 lq9 => ?_⟩
    have m9 := m8.same s9
    have fq := m8.free hq1
    have wq : w1 ≠ q1 := ne_of_none l8 hq1
    refine ⟨_, rfl, a, C, x, _, rfl, m9.ins, T.cl, T.nA, few, ?_⟩
    rw [tf_put_wants]
    have m10 := m9.put (fs' := tf true n m k w1 p1 q1 g0 d0)
    have l10 : (upd H9 a (.ins C x (tf true n m k w1 p1 q1 g0 d0))) w1 = some (.lst (vi (List.replicate n 1))) := by rw [upd_ne f5.2]; exact s9 _ _ l8
    have lp10 : (upd H9 a (.ins C x (tf true n m k w1 p1 q1 g0 d0))) p1 = some (.lst (vi (pp n k))) := by rw [upd_ne fp.2]; exact s9 _ _ lp8
    have lq10 : (upd H9 a (.ins C x (tf true n m k w1 p1 q1 g0 d0))) q1 = some (.lst (vi (pp n k))) := by rw [upd_ne fq.2]; exact lq9
    generalize upd H9 a (.ins C x (tf true n m k w1 p1 q1 g0 d0)) = H10 at m10 l10 lp10 lq10 ⊢
    -- given
    refine ⟨one, fun u2 hu2 => ⟨_, rfl, u2, _, _, rfl, rfl, upd_same, by omega, by omega, ?_, fun g1 hg1 => ?_⟩⟩
    · show 1 * ((n : Nat) : Int).toNat ≤ sizeLine
      rw [Nat.one_mul, Int.toNat_natCast]
      omega
    have e2 : (List.replicate ((n : Nat) : Int).toNat [V.int 0]).flatten = vi (List.replicate n 0) := by
      rw [Int.toNat_natCast]
      exact rep_one n 0
    rw [e2]
    have s11 : Same H10 (upd (upd H10 u2 (.lst [V.int 0])) g1 (.lst (vi (List.replicate n 0)))) := same_put (same_new hu2) ((same_new hu2).free hg1)
    have m11 := m10.same s11
    have fg := m10.free ((same_new hu2).free hg1)
    have wg : w1 ≠ g1 := ne_of_none l10 ((same_new hu2).free hg1)
    have lg11 : (upd (upd H10 u2 (.lst [V.int 0])) g1 (.lst (vi (List.replicate n 0)))) g1 = some (.lst (vi (List.replicate n 0))) := upd_same
    generalize upd (upd H10 u2 (.lst [V.int 0])) g1 (.lst (vi (List.replicate n 0))) = H11 at m11 lg11 s11 ⊢
    refine ⟨_, rfl, a, C, x, _, rfl, m11.ins, T.cl, T.nG, few, ?_⟩
    rw [tf_put_given]
    have m12 := m11.put (fs' := tf true n m k w1 p1 q1 g1 d0)
    have l12 : (upd H11 a (.ins C x (tf true n m k w1 p1 q1 g1 d0))) w1 = some (.lst (vi (List.replicate n 1))) := by rw [upd_ne f5.2]; exact s11 _ _ l10
    have lp12 : (upd H11 a (.ins C x (tf true n m k w1 p1 q1 g1 d0))) p1 = some (.lst (vi (pp n k))) := by rw [upd_ne fp.2]; exact s11 _ _ lp10
    have lq12 : (upd H11 a (.ins C x (tf true n m k w1 p1 q1 g1 d0))) q1 = some (.lst (vi (pp n k))) := by rw [upd_ne fq.2]; exact s11 _ _ lq10
    have lg12 : (upd H11 a (.ins C x (tf true n m k w1 p1 q1 g1 d0))) g1 = some (.lst (vi (List.replicate n 0))) := by rw [upd_ne fg.2]; exact lg11
    generalize upd H11 a (.ins C x (tf true n m k w1 p1 q1 g1 d0)) = H12 at m12 l12 lp12 lq12 lg12 ⊢
    -- done
    refine ⟨one, fun u3 hu3 => ⟨_, rfl, u3, _, _, rfl, rfl, upd_same, by omega, by omega, ?_, fun d1 hd1 => ?_⟩⟩
    · show 1 * ((m : Nat) : Int).toNat ≤ sizeLine
      rw [Nat.one_mul, Int.toNat_natCast]
      omega
    have e3 : (List.replicate ((m : Nat) : Int).toNat [V.int 0]).flatten = vi (List.replicate m 0) := by
      rw [Int.toNat_natCast]
      exact rep_one m 0
    rw [e3]
    have s13 : Same H12 (upd (upd H12 u3 (.lst [V.int 0])) d1 (.lst (vi (List.replicate m 0)))) := same_put (same_new hu3) ((same_new hu3).free hd1)
    have m13 := m12.same s13
    have fd1 := m12.free ((same_new hu3).free hd1)
    have wd : w1 ≠ d1 := ne_of_none l12 ((same_new hu3).free hd1)
    have ld13 : (upd (upd H12 u3 (.lst [V.int 0])) d1 (.lst (vi (List.replicate m 0)))) d1 = some (.lst (vi (List.replicate m 0))) := upd_same
    generalize upd (upd H12 u3 (.lst [V.int 0])) d1 (.lst (vi (List.replicate m 0))) = H13 at m13 ld13 s13 ⊢
    refine ⟨_, rfl, a, C, x, _, rfl, m13.ins, T.cl, T.nD, few, ?_⟩
    rw [tf_put_done]
    have m14 := m13.put (fs' := tf true n m k w1 p1 q1 g1 d1)
    exact q _ ⟨a, x, w1, p1, q1, g1, d1⟩ rfl m14.but ⟨upd_same, by rw [upd_ne f5.2]; exact s13 _ _ l12, by rw [upd_ne fp.2]; exact s13 _ _ lp12, by rw [upd_ne fq.2]; exact s13 _ _ lq12,
      by rw [upd_ne fg.2]; exact s13 _ _ lg12, by rw [upd_ne fd1.2]; exact ld13, wp, wq, wg, wd⟩ f5.1 fp.1 fq.1 fg.1 fd1.1
end
end Tw

set_option maxRecDepth 100000
set_option maxHeartbeats 2000000
namespace Tw
open PySem PySem.Spec PyProof.Rows L2
open Krcj (Game Plan)
open Krcm (Desk)

theorem DeskAt.ins {C : Addr} {G : Hp} {L : Addr} {H : Hp} {a : Addr} {x : Option Desk} (t : DeskAt C G L H a x) :
    ∃ (u : Addr) (n m k : Int) (w p q g d : Addr), H a = some (.ins C u (tf x.isSome n m k w p q g d)) := by
  cases x with
  | none =>
    obtain ⟨u, n, m, k, aw, ap, an, ag, ad, h⟩ := t
    exact ⟨u, n, m, k, aw, ap, an, ag, ad, h⟩
  | some d =>
    obtain ⟨A, rfl, t, _⟩ := t
    exact ⟨A.x, _, _, _, _, _, _, _, _, t.ins⟩
/-- the call that a number and its row tell -/
def mkCall (c : Nat) (l : List Nat) : Krcm.Call := match c with
  | 0 => .begin_ (l.getD 0 0) (l.getD 1 0) (l.getD 2 0)
  | 1 => .weight (l.getD 0 0) (l.getD 1 0)
  | 2 => .pays l
  | 3 => .wants l
  | 4 => .send l
  | 5 => .act l
  | 6 => .worth
  | 7 => .rest
  | 8 => .better
  | 9 => .rests
  | 10 => .mosttold
  | 11 => .bestgiver
  | 12 => .bestactor
  | 13 => .nothing
  | 14 => .honest
  | 15 => .envies
  | 16 => .agree
  | 17 => .cost
  | _ => .state
def preCall (c : Nat) (l : List Nat) : Prop := (c = 0 → l.length = 3) ∧ (c = 1 → l.length = 2)
theorem act_none {c : Nat} {l : List Nat} (h : c ≠ 0) : Krcm.act none (mkCall c l) = (none, Krcj.say (-11)) := by
  unfold mkCall
  split
  · exact absurd rfl h
  all_goals rfl

section
variable {P : Program} {w : World} {K : PySem.W.Frag} {mg : Str → Option Value} {base : Heap} {C : Addr}
structure Mtd (P : Program) (w : World) (K : PySem.W.Frag) (mg : Str → Option Value) (base : Heap) (C : Addr) (k : Nat) (m : Str) (sp : Sp) : Prop where
  ex : ∃ (f : Addr) (fd : FuncData) (ps : List Str), Meth K C m f ∧ FnOk P w K mg base CX0 k f fd ps sp ∧ Binds K fd ps []

/-! begin(table, row) -/
abbrev sBegin : Stmt := top 29
theorem scBegin : FnScope ["table", "row"] ["table", "row"] (defScope sBegin) := ⟨rfl, rfl, rfl, by decide +kernel, rfl, by decide +kernel, by decide +kernel⟩
def spBegin (C : Addr) : Sp := fun vs H Q _ => ∃ (G : Hp) (L a : Addr) (x : Option Desk) (r : Addr) (l : List Nat),
  vs = [.ref a, .ref r] ∧ Fr G L a H ∧ DeskAt C G L H a x ∧ H r = some (.lst (vi l)) ∧ l.length = 3 ∧
  ∀ H' p, After C G L a H H' p (Krcm.act x (.begin_ (l.getD 0 0) (l.getD 1 0) (l.getD 2 0))) → Q (.ref p) H'
theorem ok_begin (T : Txt K mg C) (N : Cst mg) (D : Dfn K mg "begin" sBegin) (Gw : Has P w K mg base 1 "all_within" spWithin) (Gm : Mtd P w K mg base C 2 "begin" (spTBegin C)) : Has P w K mg base 3 "begin" (spBegin C) := by
  obtain ⟨fm, fdm, psm, me, GB, bB⟩ := Gm.ex
  refine D.has scBegin ?_ (fun _ _ _ _ _ _ us hl => match us, hl with | [_, _], _ => rfl) ?_
  · rintro vs H Q E ⟨G, L, a, x, r, l, rfl, _⟩
    rfl
  · rintro f cdv A0 outer s0 H vs Q E hr ⟨G, L, a, x, r, l, rfl, fr, dk, hrow, hl, q⟩
    refine ⟨_, pss_cons (ps_if (pt_not (pt_val (pe_h Gw hr (by decide) (by rfl) (pa_cons (pv 1) (pa_cons pe_int (pa_cons pe_int pa_nil))))))
        (pss_one (ps_ret (pe_lst (pa_cons (pe_cst (by rfl) N.nr) pa_nil)))) pss_nil)
      (pss_cons (ps_expr (pe_meth (pv 0) T.cl me GB hr bB .nil pass0 (pa_cons (pe_ix ix_list (pv 1) pe_int (fun _ _ => rfl)) (pa_cons (pe_ix ix_list (pv 1) pe_int (fun _ _ => rfl)) (pa_cons (pe_ix ix_list (pv 1) pe_int (fun _ _ => rfl)) pa_nil)))))
      (pss_one (ps_ret (pe_lst (pa_cons pe_int pa_nil))))), ?_⟩
    have r0 : (vi l)[0]? = some (V.int (l.getD 0 0 : Nat)) := vi_at (by omega)
    have r1 : (vi l)[1]? = some (V.int (l.getD 1 0 : Nat)) := vi_at (by omega)
    have r2 : (vi l)[2]? = some (V.int (l.getD 2 0 : Nat)) := vi_at (by omega)
    refine ⟨_, rfl, r, l, 1, 3, rfl, hrow, by omega, fun H1 s1 => ⟨_, rfl, ?_⟩⟩
    show if (!within l 1 3) = true then _ else _
    have el : within l 1 3 = true ↔ (1 ≤ l.getD 0 0 ∧ l.getD 0 0 ≤ 3 ∧ 1 ≤ l.getD 1 0 ∧ l.getD 1 0 ≤ 3 ∧ 1 ≤ l.getD 2 0 ∧ l.getD 2 0 ≤ 3) := by
      match l, hl with
      | [y0, y1, y2], _ =>
        unfold within
        simp only [List.all_cons, List.all_nil, Bool.and_true, Bool.and_eq_true, decide_eq_true_iff]
        show _ ↔ (1 ≤ y0 ∧ y0 ≤ 3 ∧ 1 ≤ y1 ∧ y1 ≤ 3 ∧ 1 ≤ y2 ∧ y2 ≤ 3)
        omega
    by_cases c : within l 1 3 = true
    · have c' := el.mp c
      rw [act_begin_yes c'] at q
      rw [c]
      refine iteF ?_
      obtain ⟨u, n0, m0, k0, w0, p0, q0, g0, d0, hi⟩ := (dk.same s1).ins
      have hr1 := s1 _ _ hrow
      refine ⟨_, rfl, a, u, _, rfl, hi, rfl, _, rfl, r, _, _, _, rfl, rfl, SqL.of hr1, at_of (j := 0) rfl r0, _, rfl, r, _, _, _, rfl, rfl, SqL.of hr1, at_of (j := 1) rfl r1, _, rfl, r, _, _, _, rfl, rfl, SqL.of hr1, at_of (j := 2) rfl r2,
        a, u, _, n0, m0, k0, w0, p0, q0, g0, d0, _, _, _, rfl, hi, c'.2.1, c'.2.2.2.1, c'.2.2.2.2.2, fun H2 A ea b2 t2 fw fp fq fg fd => ?_⟩
      refine ⟨(by show 1 ≤ sizeLine; decide), fun p hp => q _ _ ?_⟩
      subst ea
      have s3 : Same H2 (upd H2 p (.lst [V.int 0])) := same_new hp
      have hL : H1 L ≠ none := by
        cases e : H L with
        | none => exact absurd e (fr.dom L fr.gL)
        | some o =>
          rw [s1 _ _ e]
          exact fun z => by cases z
      have nL : ∀ {b : Addr}, H1 b = none → b ≠ L := fun h e => hL (by rw [← e]; exact h)
      refine ⟨⟨A, rfl, t2.same s3, newDesk_ok c', fr.new s1 fw, nL fp, nL fq, nL fg, nL fd⟩, fun b o ba _ h => s3 _ _ (b2 _ _ ba (s1 _ _ h)), ?_, ?_⟩
      · rw [upd_same]
        rfl
      · cases e : G p with
        | none => rfl
        | some o =>
          have g1 : G p ≠ none := by rw [e]; exact fun z => by cases z
          cases e2 : H1 p with
          | none => exact absurd (s1.free e2) (fr.dom p g1)
          | some o2 =>
            by_cases pa : p = A.a
            · rw [pa, t2.ins] at hp
              cases hp
            · rw [b2 _ _ pa e2] at hp
              cases hp
    · rw [act_begin_no (fun h => c (el.mpr h))] at q
      rw [Bool.eq_false_iff.mpr c]
      exact iteT ⟨(by show 1 ≤ sizeLine; decide), fun p hp => q _ _ (After.read fr dk s1 hp rfl)⟩

/-! answer(table, number, row) -/
abbrev sAnswer : Stmt := top 52
theorem scAnswer : FnScope ["table", "number", "row"] ["table", "number", "row"] (defScope sAnswer) := ⟨rfl, rfl, rfl, by decide +kernel, rfl, by decide +kernel, by decide +kernel⟩
def spAnswer (C : Addr) (top : Nat) : Sp := fun vs H Q _ => ∃ (G : Hp) (L a : Addr) (x : Option Desk) (c : Nat) (r : Addr) (l : List Nat),
  vs = [.ref a, .int c, .ref r] ∧ Fr G L a H ∧ DeskAt C G L H a x ∧ H r = some (.lst (vi l)) ∧ G r ≠ none ∧ r ≠ L ∧ l.length ≤ 255 ∧ preCall c l ∧ c ≤ top ∧
  ∀ H' p, After C G L a H H' p (Krcm.act x (mkCall c l)) → Q (.ref p) H'
/-- the table of the calls: under each number the def that keeps its promise -/
def Calls (P : Program) (w : World) (K : PySem.W.Frag) (mg : Str → Option Value) (base : Heap) (C : Addr) (k top : Nat) (cA : Addr) : Prop :=
  ∀ c : Nat, 1 ≤ c → c ≤ top → ∃ f : Addr, KInt K cA c (some (.ref f)) ∧ Kept P w K mg base k f (spAsk C (mkCall c) (preCall c))
theorem ok_answer {cA : Addr} {n : Nat} (T : Txt K mg C) (N : Cst mg) (D : Dfn K mg "answer" sAnswer) (Gb : Has P w K mg base 3 "begin" (spBegin C)) (mC : mg "CALLS" = some (.ref cA)) (TC : Calls P w K mg base C 9 n cA) : Has P w K mg base 10 "answer" (spAnswer C n) := by
  refine D.has scAnswer ?_ (fun _ _ _ _ _ _ us hl => match us, hl with | [_, _, _], _ => rfl) ?_
  · rintro vs H Q E ⟨G, L, a, x, c, r, l, rfl, _⟩
    rfl
  · rintro f cdv A0 outer s0 H vs Q E hr ⟨G, L, a, x, c, r, l, rfl, fr, dk, hrow, gr, rL, hl, hp, hc, q⟩
    refine ⟨_, pss_cons (ps_if (pt_cmpR op_eq (pv 1) (pe_cst (by rfl) N.be) (nomark _)) (pss_one (ps_ret (pe_h Gb hr (by decide) (by rfl) (pa_cons (pv 0) (pa_cons (pv 2) pa_nil))))) pss_nil)
      (pss_cons (ps_if (pt_not (pt_val (pe_fld (pv 0) rfl))) (pss_one (ps_ret (pe_lst (pa_cons (pe_cst (by rfl) N.nb) pa_nil)))) pss_nil)
      (pss_one (ps_ret (pe_callE (k := 9) (pe_ix ix_kint (pe_glob (v := .ref cA) (by rfl) mC rfl) (pv 1) (fun _ _ => rfl)) hr (pa_cons (pv 0) (pa_cons (pv 2) pa_nil)))))), ?_⟩
    refine ⟨_, rfl, rfl, _, rfl, ?_⟩
    show if decide (V.int ((c : Nat) : Int) = V.int ((0 : Nat) : Int)) = true then _ else _
    rw [eq_natV]
    by_cases c0 : c = 0
    · subst c0
      rw [decide_eq_true rfl]
      exact iteT ⟨_, rfl, _, rfl, G, L, a, x, r, l, rfl, fr, dk, hrow, hp.1 rfl, q⟩
    · rw [decide_eq_false c0]
      refine iteF ?_
      obtain ⟨u, n0, m0, k0, w0, p0, q0, g0, d0, hi⟩ := dk.ins
      refine ⟨_, rfl, a, C, u, _, _, rfl, hi, T.cl, T.nB, tf_begun, _, rfl, ?_⟩
      show if (!x.isSome) = true then _ else _
      cases x with
      | none =>
        rw [act_none c0] at q
        exact iteT ⟨(by show 1 ≤ sizeLine; decide), fun p hp => q _ _ (After.read fr dk (Same.refl _) hp rfl)⟩
      | some d =>
        refine iteF ?_
        obtain ⟨f1, kd, kf⟩ := TC c (by omega) hc
        exact ⟨_, rfl, cA, c, .ref f1, _, rfl, rfl, kd, rfl, f1, _, rfl, kf, _, rfl, _, rfl, G, L, a, d, r, l, rfl, fr, dk, hrow, gr, rL, hl, hp, q⟩
end
end Tw

set_option maxRecDepth 100000
set_option maxHeartbeats 2000000
namespace Tw
open PySem PySem.Spec PyProof.Rows L2
open Krcj (Game Plan)
open Krcm (Desk)

/-- what stands between a call's number and its row -/
def ahead (c : Nat) (row : List Nat) : List Int := if 2 ≤ c ∧ c ≤ 5 then [(row.length : Int)] else []
/-- a list of numbers and its calls: their numbers, their rows -/
inductive Parsed : List Int → List (Nat × List Nat) → Prop
  | nil : Parsed [] []
  | cons {c : Nat} {row : List Nat} {rest : List Int} {cs : List (Nat × List Nat)} (hc : c ≤ 18) (pre : preCall c row) (p6 : 6 ≤ c → row.length = 0) (hl : row.length ≤ 255) (t : Parsed rest cs) :
      Parsed ((c : Int) :: (ahead c row ++ (Krcj.ints row ++ rest))) ((c, row) :: cs)
/-- what is answered, call by call -/
def run : Option Desk → List (Nat × List Nat) → List Int
  | _, [] => []
  | x, (c, row) :: cs => ((KrcmNeutral.told (Krcm.act x (mkCall c row)).2).length : Int) :: (KrcmNeutral.told (Krcm.act x (mkCall c row)).2 ++ run (Krcm.act x (mkCall c row)).1 cs)

theorem toNat_ints {r : List Int} (h : ∀ z ∈ r, 0 ≤ z) : Krcj.ints (r.map Int.toNat) = r := by
  unfold Krcj.ints
  rw [List.map_map]
  conv => rhs; rw [← List.map_id r]
  refine List.map_congr_left fun z hz => ?_
  have := h z hz
  show ((z.toNat : Nat) : Int) = z
  omega
theorem natural_le {z : Int} (h : KrcmNeutral.natural z 32 = true) : 0 ≤ z := by
  unfold KrcmNeutral.natural at h
  rw [Bool.and_eq_true, decide_eq_true_iff] at h
  exact h.1
theorem shape_le {p : Int} {y : Nat × Nat} (h : PyKrcm.shape p = some y) : 0 ≤ p ∧ p ≤ 18 := by
  by_cases c : 0 ≤ p ∧ p ≤ 18
  · exact c
  · exfalso
    unfold PyKrcm.shape at h
    rw [if_neg (by omega), if_neg (by omega), if_neg (by omega), if_neg (by omega), if_neg (by omega), if_neg (by omega), if_neg (by omega), if_neg (by omega), if_neg (by omega), if_neg (by omega),
      if_neg (by omega), if_neg (by omega), if_neg (by omega), if_neg (by omega), if_neg (by omega), if_neg (by omega), if_neg (by omega), if_neg (by omega), if_neg (by omega)] at h
    cases h
/-- one raw call, as it is asked: its number, its row -/
theorem one_call {raw : List (List Int)} {l t : List Int} (h : PyFlat.call PyKrcm.shape l = some (raw, t)) (ha : KrcmNeutral.asked1 (PyKrcm.whole raw) = true) :
    ∃ (c : Nat) (row : List Nat), c ≤ 18 ∧ preCall c row ∧ (6 ≤ c → row.length = 0) ∧ row.length ≤ 255 ∧ l = (c : Int) :: (ahead c row ++ (Krcj.ints row ++ t)) ∧ KrcmNeutral.call (PyKrcm.whole raw) = mkCall c row := by
  cases l with
  | nil => cases h
  | cons p r =>
    unfold PyFlat.call at h
    have rest : ∀ (c : Nat), c < 19 → 6 ≤ c → p = (c : Int) → ∃ (c : Nat) (row : List Nat), c ≤ 18 ∧ preCall c row ∧ (6 ≤ c → row.length = 0) ∧ row.length ≤ 255 ∧ p :: r = (c : Int) :: (ahead c row ++ (Krcj.ints row ++ t)) ∧ KrcmNeutral.call (PyKrcm.whole raw) = mkCall c row := by
      intro c hc h6 e
      subst e
      have hs : PyKrcm.shape (c : Int) = some (0, 0) := by
        match c, hc, h6 with
        | 6, _, _ => rfl
        | 7, _, _ => rfl
        | 8, _, _ => rfl
        | 9, _, _ => rfl
        | 10, _, _ => rfl
        | 11, _, _ => rfl
        | 12, _, _ => rfl
        | 13, _, _ => rfl
        | 14, _, _ => rfl
        | 15, _, _ => rfl
        | 16, _, _ => rfl
        | 17, _, _ => rfl
        | 18, _, _ => rfl
      simp only [hs] at h
      rw [if_neg (by omega)] at h
      have h' : some ([[(c : Int)]], r) = some (raw, t) := h
      injection h' with h'
      injection h' with h1 h2
      subst h1
      subst h2
      refine ⟨c, [], by omega, ⟨fun e => by omega, fun e => by omega⟩, fun _ => rfl, Nat.zero_le _, ?_, ?_⟩
      · unfold ahead
        rw [if_neg (by omega)]
        rfl
      · match c, hc, h6 with
        | 6, _, _ => rfl
        | 7, _, _ => rfl
        | 8, _, _ => rfl
        | 9, _, _ => rfl
        | 10, _, _ => rfl
        | 11, _, _ => rfl
        | 12, _, _ => rfl
        | 13, _, _ => rfl
        | 14, _, _ => rfl
        | 15, _, _ => rfl
        | 16, _, _ => rfl
        | 17, _, _ => rfl
        | 18, _, _ => rfl
    have listed : ∀ (c : Nat), 2 ≤ c → c ≤ 5 → p = (c : Int) → ∃ (c : Nat) (row : List Nat), c ≤ 18 ∧ preCall c row ∧ (6 ≤ c → row.length = 0) ∧ row.length ≤ 255 ∧ p :: r = (c : Int) :: (ahead c row ++ (Krcj.ints row ++ t)) ∧ KrcmNeutral.call (PyKrcm.whole raw) = mkCall c row := by
      intro c h2 h5 e
      subst e
      have hs : PyKrcm.shape (c : Int) = some (0, 1) := by
        match c, h2, h5 with
        | 2, _, _ => rfl
        | 3, _, _ => rfl
        | 4, _, _ => rfl
        | 5, _, _ => rfl
      simp only [hs] at h
      rw [if_neg (by omega)] at h
      cases r with
      | nil => cases h
      | cons m r =>
        simp only [List.drop_zero, PyFlat.rows, PyFlat.row] at h
        by_cases hm : 0 ≤ m ∧ m.toNat ≤ r.length
        · rw [if_pos hm] at h
          have h' : some ([[(c : Int)], r.take m.toNat], r.drop m.toNat) = some (raw, t) := h
          injection h' with h'
          injection h' with h1 h2'
          subst h1
          subst h2'
          have hw : PyKrcm.whole [[(c : Int)], r.take m.toNat] = [[(c : Int)], r.take m.toNat] := by
            match c, h2, h5 with
            | 2, _, _ => rfl
            | 3, _, _ => rfl
            | 4, _, _ => rfl
            | 5, _, _ => rfl
          rw [hw] at ha ⊢
          have ha' : ((r.take m.toNat).all (fun z => KrcmNeutral.natural z 32) && decide ((r.take m.toNat).length < 256)) = true := by
            match c, h2, h5 with
            | 2, _, _ => exact ha
            | 3, _, _ => exact ha
            | 4, _, _ => exact ha
            | 5, _, _ => exact ha
          rw [Bool.and_eq_true, List.all_eq_true, decide_eq_true_iff] at ha'
          have hnn : ∀ z ∈ r.take m.toNat, 0 ≤ z := fun z hz => natural_le (ha'.1 z hz)
          have hlen : ((r.take m.toNat).map Int.toNat).length = m.toNat := by
            rw [List.length_map, List.length_take]
            omega
          refine ⟨c, (r.take m.toNat).map Int.toNat, by omega, ⟨fun e => by omega, fun e => by omega⟩, fun e => by omega, ?_, ?_, ?_⟩
          · rw [List.length_map]
            omega
          · unfold ahead
            rw [if_pos ⟨h2, h5⟩, toNat_ints hnn, hlen, List.take_append_drop]
            show (c : Int) :: m :: r = (c : Int) :: ((m.toNat : Nat) : Int) :: r
            rw [show ((m.toNat : Nat) : Int) = m by omega]
          · match c, h2, h5 with
            | 2, _, _ => rfl
            | 3, _, _ => rfl
            | 4, _, _ => rfl
            | 5, _, _ => rfl
        · rw [if_neg hm] at h
          cases h
    cases hs : PyKrcm.shape p with
    | none =>
      simp only [hs] at h
      cases h
    | some y =>
      obtain ⟨q1, q2⟩ := shape_le hs
      by_cases e6 : 6 ≤ p
      · exact rest p.toNat (by omega) (by omega) (by omega)
      · by_cases e2 : 2 ≤ p
        · exact listed p.toNat (by omega) (by omega) (by omega)
        · by_cases e1 : p = 1
          · subst e1
            simp only [show PyKrcm.shape 1 = some (2, 0) from rfl] at h
            by_cases hl : r.length < 2
            · rw [if_pos hl] at h
              cases h
            · rw [if_neg hl] at h
              match r, hl with
              | y0 :: y1 :: r, _ =>
                have h' : some ([[1, y0, y1]], r) = some (raw, t) := h
                injection h' with h'
                injection h' with h1 h2
                subst h1
                subst h2
                have ha' : (KrcmNeutral.natural y0 32 && KrcmNeutral.natural y1 32) = true := ha
                rw [Bool.and_eq_true] at ha'
                have n0 := natural_le ha'.1
                have n1 := natural_le ha'.2
                refine ⟨1, [y0.toNat, y1.toNat], by decide, ⟨(fun e => by cases e), fun _ => rfl⟩, (fun e => by omega), (by show 2 ≤ 255; decide), ?_, rfl⟩
                show 1 :: y0 :: y1 :: r = 1 :: ((y0.toNat : Nat) : Int) :: ((y1.toNat : Nat) : Int) :: r
                rw [show ((y0.toNat : Nat) : Int) = y0 by omega, show ((y1.toNat : Nat) : Int) = y1 by omega]
              | [_], hl => exact absurd (show 1 < 2 by decide) hl
              | [], hl => exact absurd (show 0 < 2 by decide) hl
          · have e0 : p = 0 := by omega
            subst e0
            simp only [show PyKrcm.shape 0 = some (3, 0) from rfl] at h
            by_cases hl : r.length < 3
            · rw [if_pos hl] at h
              cases h
            · rw [if_neg hl] at h
              match r, hl with
              | y0 :: y1 :: y2 :: r, _ =>
                have h' : some ([[0, y0, y1, y2]], r) = some (raw, t) := h
                injection h' with h'
                injection h' with h1 h2
                subst h1
                subst h2
                have ha' : (KrcmNeutral.natural y0 32 && KrcmNeutral.natural y1 32 && KrcmNeutral.natural y2 32) = true := ha
                rw [Bool.and_eq_true, Bool.and_eq_true] at ha'
                have n0 := natural_le ha'.1.1
                have n1 := natural_le ha'.1.2
                have n2 := natural_le ha'.2
                refine ⟨0, [y0.toNat, y1.toNat, y2.toNat], by decide, ⟨fun _ => rfl, (fun e => by cases e)⟩, (fun e => by omega), (by show 3 ≤ 255; decide), ?_, rfl⟩
                show 0 :: y0 :: y1 :: y2 :: r = 0 :: ((y0.toNat : Nat) : Int) :: ((y1.toNat : Nat) : Int) :: ((y2.toNat : Nat) : Int) :: r
                rw [show ((y0.toNat : Nat) : Int) = y0 by omega, show ((y1.toNat : Nat) : Int) = y1 by omega, show ((y2.toNat : Nat) : Int) = y2 by omega]
              | [_, _], hl => exact absurd (show 2 < 3 by decide) hl
              | [_], hl => exact absurd (show 1 < 3 by decide) hl
              | [], hl => exact absurd (show 0 < 3 by decide) hl
theorem all_calls : ∀ (f : Nat) (l : List Int) (raw : List (List (List Int))), PyFlat.calls PyKrcm.shape f l = some raw → (raw.map PyKrcm.whole).all KrcmNeutral.asked1 = true →
    ∃ cs : List (Nat × List Nat), Parsed l cs ∧ cs.length = raw.length ∧ ∀ x, PyFlat.told (PyFlat.played KrcmNeutral.step x (raw.map PyKrcm.whole)) = run x cs
  | f, [], raw, h, ha => by
    have e : raw = [] := by
      cases f with
      | zero => exact (Option.some.inj (show some [] = some raw from h)).symm
      | succ f => exact (Option.some.inj (show some [] = some raw from h)).symm
    subst e
    exact ⟨[], .nil, rfl, fun x => rfl⟩
  | 0, p :: r, raw, h, ha => by cases h
  | f + 1, p :: r, raw, h, ha => by
    unfold PyFlat.calls at h
    cases e : PyFlat.call PyKrcm.shape (p :: r) with
    | none =>
      simp only [e] at h
      cases h
    | some y =>
      obtain ⟨c1, t⟩ := y
      simp only [e] at h
      cases e2 : PyFlat.calls PyKrcm.shape f t with
      | none =>
        simp only [e2] at h
        cases h
      | some raw' =>
        simp only [e2] at h
        have er : c1 :: raw' = raw := Option.some.inj h
        subst er
        rw [List.map_cons, List.all_cons, Bool.and_eq_true] at ha
        obtain ⟨c, row, hc, pre, p6, hl, el, ec⟩ := one_call e ha.1
        obtain ⟨cs, pt, en, er⟩ := all_calls f t raw' e2 ha.2
        refine ⟨(c, row) :: cs, ?_, by rw [List.length_cons, List.length_cons, en], fun x => ?_⟩
        · rw [el]
          exact .cons hc pre p6 hl pt
        · rw [List.map_cons]
          unfold PyFlat.played PyFlat.told
          rw [List.flatMap_cons]
          have e3 := er (KrcmNeutral.step x (PyKrcm.whole c1)).1
          unfold PyFlat.told at e3
          rw [e3]
          have e4 : KrcmNeutral.step x (PyKrcm.whole c1) = ((Krcm.act x (mkCall c row)).1, KrcmNeutral.told (Krcm.act x (mkCall c row)).2) := by
            unfold KrcmNeutral.step
            rw [ec]
          rw [e4]
          rfl
/-- what is asked, and what is due -/
theorem due {l : List Int} (h : PyKrcm.answers_asked l = true) : ∃ cs : List (Nat × List Nat), Parsed l cs ∧ cs.length ≤ 40 ∧ PyKrcm.answers l = run none cs ∧ (run none cs).length ≤ 10000000 := by
  unfold PyKrcm.answers_asked at h
  cases e : PyFlat.calls PyKrcm.shape l.length l with
  | none =>
    rw [e] at h
    cases h
  | some raw =>
    rw [e] at h
    simp only [Bool.and_eq_true] at h
    obtain ⟨⟨⟨h1, h2⟩, h3⟩, h4⟩ := h
    unfold KrcmNeutral.asked at h3
    rw [Bool.and_eq_true] at h3
    obtain ⟨cs, pt, en, er⟩ := all_calls l.length l raw e h3.1
    have ea : PyKrcm.answers l = run none cs := by
      unfold PyKrcm.answers PyKrcm.calls
      rw [e]
      exact er none
    refine ⟨cs, pt, ?_, ea, ?_⟩
    · rw [en]
      unfold PyFlat.atMost at h1
      exact of_decide_eq_true h1
    · rw [← ea]
      unfold PyFlat.short at h4
      exact of_decide_eq_true h4
end Tw

set_option maxRecDepth 100000
set_option maxHeartbeats 2000000
namespace Tw
open PySem PySem.Spec PyProof.Rows L2
open Krcj (Game Plan)
open Krcm (Desk)

/-- a call as it was read: a pair of its number and its row -/
structure Rd1 where
  t : Addr
  r : Addr
  c : Nat
  row : List Nat
structure Found (G H : Hp) (F : Addr) (ts : List Rd1) : Prop where
  lst : H F = some (.lst (ts.map fun q => V.ref q.t))
  one : ∀ q ∈ ts, H q.t = some (.tup [.int q.c, .ref q.r]) ∧ H q.r = some (.lst (vi q.row)) ∧ G q.r = none ∧ G q.t = none
theorem sIx_some (n d : Nat) (v : Int) : HT.sIx n d (some v) = if v < 0 then (v + (n : Int)).toNat else min v.toNat n := rfl
theorem cut_mid (A B D : List V) : cutV (A ++ (B ++ D)) (some (A.length : Int)) (some ((A.length + B.length : Nat) : Int)) = B := by
  unfold cutV
  have h1 : HT.sIx (A ++ (B ++ D)).length 0 (some (A.length : Int)) = A.length := by
    rw [sIx_some, if_neg (by omega), Int.toNat_natCast, List.length_append]
    omega
  have h2 : HT.sIx (A ++ (B ++ D)).length (A ++ (B ++ D)).length (some ((A.length + B.length : Nat) : Int)) = A.length + B.length := by
    rw [sIx_some, if_neg (by omega), Int.toNat_natCast, List.length_append, List.length_append]
    omega
  rw [h1, h2, List.drop_left, Nat.add_sub_cancel_left, List.take_left]
theorem in_listed : ∀ c : Nat, c < 19 → inV (V.int (c : Int)) [V.int 2, V.int 3, V.int 4, V.int 5] = decide (2 ≤ c ∧ c ≤ 5) := by
  decide +kernel

section
variable {P : Program} {w : World} {K : PySem.W.Frag} {mg : Str → Option Value} {base : Heap} {C : Addr}
/-- the tables that the reading asks -/
structure Tbl (K : PySem.W.Frag) (mg : Str → Option Value) : Prop where
  plain : ∃ pA : Addr, mg "PLAIN" = some (.ref pA) ∧ (pA == sysModules) = false ∧ (∃ t, KInt K pA 0 (some (.int 3 t))) ∧ (∃ t, KInt K pA 1 (some (.int 2 t))) ∧ ∀ c : Int, 2 ≤ c → KInt K pA c none
  listed : ∃ lA : Addr, mg "LISTED" = some (.ref lA) ∧ ∀ H : Hp, SqT K H lA [V.int 2, V.int 3, V.int 4, V.int 5]
/-- how many whole numbers stand behind a call's number -/
def plainN (c : Nat) : Nat := if c = 0 then 3 else if c = 1 then 2 else 0

/-! read_calls(calls) -/
abbrev sRead : Stmt := top 59
theorem scRead : FnScope ["calls", "found", "at", "number", "start", "size"] ["calls"] (defScope sRead) := ⟨rfl, rfl, rfl, by decide +kernel, rfl, by decide +kernel, by decide +kernel⟩
def spRead (K : PySem.W.Frag) : Sp := fun vs H Q _ => ∃ (a : Addr) (ns : List Int) (cs : List (Nat × List Nat)), vs = [.ref a] ∧ SqL K H a (ns.map V.int) ∧ Parsed ns cs ∧ cs.length ≤ 40 ∧
  ∀ (H' : Hp) (F : Addr) (ts : List Rd1), Same H H' → Found H H' F ts → H F = none → (ts.map fun q => (q.c, q.row)) = cs → Q (.ref F) H'
theorem ok_read (T : Txt K mg C) (B : Tbl K mg) (D : Dfn K mg "read_calls" sRead) : Has P w K mg base 1 "read_calls" (spRead K) := by
  obtain ⟨pA, mP, sysP, ⟨t0, k0⟩, ⟨t1, k1⟩, k2⟩ := B.plain
  obtain ⟨lA, mL, hL⟩ := B.listed
  refine D.has scRead ?_ (fun _ _ _ _ _ _ us hl => match us, hl with | [_], _ => rfl) ?_
  · rintro vs H Q E ⟨a, ns, cs, rfl, _⟩
    rfl
  · rintro f cdv A0 outer s0 H vs Q E hr ⟨a, ns, cs, rfl, ha, pn, h40, q⟩
    refine ⟨_, pss_cons (ps_set (i := 1) scRead.nd rfl (Or.inl rfl) (pe_lst pa_nil))
      (pss_cons (ps_set (i := 2) scRead.nd rfl (Or.inl rfl) pe_int)
      (pss_cons (ps_while PassesOwn.never (pt_cmpR op_lt (pv 2) (pe_callB call_len_seq (by rfl) T.mlen PySem.boot_len (pa_cons (pv 0) pa_nil)) (nomark _))
        (pss_cons (ps_set (i := 3) scRead.nd rfl (Or.inl rfl) (pe_ix ix_list (pv 0) (pv 2) (fun _ _ => rfl)))
        (pss_cons (ps_set (i := 4) scRead.nd rfl (Or.inl rfl) (pe_op op_add (pv 2) pe_int))
        (pss_cons (ps_set (i := 5) scRead.nd rfl (Or.inl rfl) (pe_getI (pe_glob (v := .ref pA) (by rfl) mP rfl) (pv 3) pe_int ⟨rfl, rfl, rfl, rfl⟩))
        (pss_cons (ps_if (pt_cmpR op_in_seq (pv 3) (pe_glob (v := .ref lA) (by rfl) mL rfl) (by rfl))
          (pss_cons (ps_set (i := 5) scRead.nd rfl (Or.inl rfl) (pe_ix ix_list (pv 0) (pv 4) (fun _ _ => rfl))) (pss_one (ps_set (i := 4) scRead.nd rfl (Or.inl rfl) (pe_op op_add (pv 4) pe_int))))
          pss_nil)
        (pss_cons (ps_set (i := 2) scRead.nd rfl (Or.inl rfl) (pe_op op_add (pv 4) (pv 5)))
        (pss_one (ps_expr (pe_bm PySem.F.plainAttrs_list PySem.F.slot_list_append PySem.F.type_list_append mt_append (pv 1) (pa_cons (pe_tup (pa_cons (pv 3) (pa_cons (pe_slice sl_list (pv 0) (po_some (pv 4)) (po_some (pv 2))) pa_nil))) pa_nil))))))))))
      (pss_one (ps_ret (pv 1))))), ?_⟩
    refine ⟨Nat.zero_le _, fun F hF => ?_⟩
    have sF : Same H (upd H F (.lst [])) := same_new hF
    refine while_by (fun σ H' => ∃ (done : List Int) (left : List Int) (ts : List Rd1) (cs' : List (Nat × List Nat)) (v3 v4 v5 : Option V), σ = [some (.ref a), some (.ref F), some (.int (done.length : Nat)), v3, v4, v5] ∧ ns = done ++ left ∧ Parsed left cs' ∧
        (ts.map fun q => (q.c, q.row)) ++ cs' = cs ∧ Same H H' ∧ Found H H' F ts ∧ ∀ q ∈ ts, q.t ≠ F ∧ q.r ≠ F)
      (fun σ _ => match σ with
        | [_, _, some (.int z), _, _, _] => ns.length - z.toNat
        | _ => 0)
      ⟨[], ns, [], cs, none, none, none, rfl, rfl, pn, rfl, sF, ⟨upd_same, fun q hq => by cases hq⟩, fun q hq => by cases hq⟩ ?_ ?_
    · rintro σ H1 ⟨done, left, ts, cs', v3, v4, v5, rfl, en, pl, ec, s1, R, nF⟩
      have ha1 : SqL K H1 a (ns.map V.int) := s1.seq ha
      refine ⟨_, rfl, _, rfl, a, _, rfl, .inl ha1, _, _, rfl, rfl, _, rfl, ?_⟩
      rw [List.length_map]
      show if decide (((done.length : Nat) : Int) < ((ns.length : Nat) : Int)) = true then _ else _
      cases pl with
      | nil =>
        rw [List.append_nil] at en
        rw [decide_eq_false (by rw [en]; omega)]
        refine iteF ⟨_, rfl, q H1 F ts s1 R hF ?_⟩
        rw [List.append_nil] at ec
        exact ec
      | @cons c row rest cs2 hc pre p6 hl pt =>
        have hlt : done.length < ns.length := by
          rw [en, List.length_append, List.length_cons]
          omega
        rw [decide_eq_true (by omega)]
        refine iteT ?_
        have hn0 : (ns.map V.int)[done.length]? = some (V.int (c : Nat)) := by
          rw [en, List.getElem?_map, List.getElem?_append_right (Nat.le_refl _), Nat.sub_self]
          rfl
        refine ⟨_, rfl, _, rfl, a, _, _, _, rfl, rfl, ha1, atI_nat hn0, _, rfl, _, _, rfl, rfl, ?_⟩
        -- size by the table of plain ones
        have hk : ∃ r : Option Value, KInt K pA (c : Nat) r ∧ ∀ uz, RelV (V.int 0) uz → RelV (V.int (plainN c : Nat)) (r.getD uz) := by
          unfold plainN
          by_cases c0 : c = 0
          · subst c0
            exact ⟨_, k0, fun uz _ => ⟨t0, rfl⟩⟩
          · by_cases c1 : c = 1
            · subst c1
              exact ⟨_, k1, fun uz _ => ⟨t1, rfl⟩⟩
            · rw [if_neg c0, if_neg c1]
              exact ⟨none, k2 _ (by omega), fun uz h => h⟩
        obtain ⟨rk, kk, rr⟩ := hk
        refine ⟨pA, rfl, ⟨_, _, k0⟩, sysP, _, rfl, _, rk, V.int (plainN c : Nat), rfl, kk, rr, ?_⟩
        refine ⟨_, rfl, lA, _, rfl, .inr (hL _), rfl, rfl, _, rfl, ?_⟩
        -- what is done with a row that begins at st and has so many numbers
        have tail : ∀ st : Nat, ns.map V.int = (ns.map V.int).take st ++ (vi row ++ rest.map V.int) → st ≤ ns.length → done.length < st →
            ∀ (tp : Addr) (rp : Addr), H1 rp = none → (upd H1 rp (.lst (vi row))) tp = none →
            (∃ (done2 left2 : List Int) (ts2 : List Rd1) (cs3 : List (Nat × List Nat)) (v3 v4 v5 : Option V), [some (V.ref a), some (.ref F), some (.int ((st : Nat) + (row.length : Nat) : Int)), some (.int (c : Nat)), some (.int (st : Nat)), some (.int (row.length : Nat))] = [some (.ref a), some (.ref F), some (.int (done2.length : Nat)), v3, v4, v5] ∧ ns = done2 ++ left2 ∧ Parsed left2 cs3 ∧
              (ts2.map fun q => (q.c, q.row)) ++ cs3 = cs ∧ Same H (upd (upd (upd H1 rp (.lst (vi row))) tp (.tup [.int (c : Nat), .ref rp])) F (.lst (ts.map (fun q => V.ref q.t) ++ [V.ref tp]))) ∧
              Found H (upd (upd (upd H1 rp (.lst (vi row))) tp (.tup [.int (c : Nat), .ref rp])) F (.lst (ts.map (fun q => V.ref q.t) ++ [V.ref tp]))) F ts2 ∧ ∀ q ∈ ts2, q.t ≠ F ∧ q.r ≠ F) ∧
            ns.length - ((st : Nat) + (row.length : Nat) : Int).toNat < ns.length - ((done.length : Nat) : Int).toNat := by
          intro st hst hsl hds tp rp hrp htp
          have hns : ns = ns.take st ++ (Krcj.ints row ++ rest) := by
            have h1 : ns.drop st = Krcj.ints row ++ rest := by
              have h2 : (ns.map V.int).drop st = vi row ++ rest.map V.int := by
                have h3 : ((ns.map V.int).take st).length = st := by
                  rw [List.length_take, List.length_map]
                  omega
                conv => lhs; rw [hst]
                conv => lhs; arg 1; rw [← h3]
                exact List.drop_left
              rw [← List.map_drop, vi_ints, ← List.map_append] at h2
              exact List.map_inj_right (fun x y e => by injection e) |>.mp h2
            rw [← h1, List.take_append_drop]
          have il : (Krcj.ints row).length = row.length := List.length_map ..
          have tl : (ns.take st).length = st := by
            rw [List.length_take]
            omega
          have s2 : Same H1 (upd H1 rp (.lst (vi row))) := same_new hrp
          have htp1 : H1 tp = none := s2.free htp
          have s3 : Same H1 (upd (upd H1 rp (.lst (vi row))) tp (.tup [.int (c : Nat), .ref rp])) := same_put s2 htp1
          have rF : rp ≠ F := fun e => by rw [e, R.lst] at hrp; cases hrp
          have tF : tp ≠ F := fun e => by rw [e, R.lst] at htp1; cases htp1
          have rt : rp ≠ tp := fun e => by rw [← e, upd_same] at htp; cases htp
          have b4 : But F H1 (upd (upd (upd H1 rp (.lst (vi row))) tp (.tup [.int (c : Nat), .ref rp])) F (.lst (ts.map (fun q => V.ref q.t) ++ [V.ref tp]))) := (but_of s3).trans But.put
          refine ⟨⟨ns.take st ++ Krcj.ints row, rest, ts ++ [⟨tp, rp, c, row⟩], cs2, some (.int (c : Nat)), some (.int (st : Nat)), some (.int (row.length : Nat)), ?_, ?_, pt, ?_, ?_, ⟨?_, ?_⟩, ?_⟩, ?_⟩
          · rw [List.length_append, tl, il, Int.natCast_add]
          · rw [List.append_assoc]
            exact hns
          · rw [List.map_append, List.append_assoc]
            exact ec
          · intro b o hb
            exact b4 b o (ne_of_none hb hF) (s1 _ _ hb)
          · rw [upd_same, List.map_append]
            rfl
          · intro z hz
            rcases List.mem_append.mp hz with hz | hz
            · obtain ⟨z1, z2, z3⟩ := R.one z hz
              obtain ⟨n1, n2⟩ := nF z hz
              exact ⟨b4 _ _ n1 z1, b4 _ _ n2 z2, z3⟩
            · have ez : z = ⟨tp, rp, c, row⟩ := by simpa using hz
              subst ez
              refine ⟨?_, ?_, s1.free hrp, s1.free htp1⟩
              · rw [upd_ne tF, upd_same]
              · rw [upd_ne rF, upd_ne rt, upd_same]
          · intro z hz
            rcases List.mem_append.mp hz with hz | hz
            · exact nF z hz
            · have ez : z = ⟨tp, rp, c, row⟩ := by simpa using hz
              subst ez
              exact ⟨tF, rF⟩
          · omega
        have few : (ts.map fun q => V.ref q.t).length < sizeLine := by
          have h := congrArg List.length ec
          rw [List.length_append, List.length_map, List.length_cons] at h
          rw [List.length_map]
          have : 40 < sizeLine := by decide
          omega
        show if (if false = true then _ else inV (V.int ((c : Nat) : Int)) [V.int 2, V.int 3, V.int 4, V.int 5]) = true then _ else _
        rw [if_neg Bool.false_ne_true, in_listed c (by omega)]
        by_cases c25 : 2 ≤ c ∧ c ≤ 5
        · rw [decide_eq_true c25]
          refine iteT ?_
          have ea : ahead c row = [(row.length : Int)] := if_pos c25
          rw [ea] at en
          have hn1 : (ns.map V.int)[done.length + 1]? = some (V.int (row.length : Nat)) := by
            rw [en, List.getElem?_map, List.getElem?_append_right (Nat.le_succ _)]
            show Option.map V.int (_ :: _)[done.length + 1 - done.length]? = _
            rw [Nat.add_sub_cancel_left]
            rfl
          refine ⟨_, rfl, _, rfl, a, _, _, _, rfl, rfl, ha1, at_of (j := done.length + 1) (by push_cast; rfl) hn1, _, rfl, _, _, rfl, rfl, _, rfl, _, rfl, _, _, rfl, rfl, ?_⟩
          have hst : ns.map V.int = (ns.map V.int).take (done.length + 2) ++ (vi row ++ rest.map V.int) := by
            have h1 : ns.map V.int = (done ++ [(c : Int), (row.length : Int)]).map V.int ++ (vi row ++ rest.map V.int) := by
              rw [en, vi_ints, ← List.map_append, ← List.map_append, List.append_assoc]
              rfl
            have h2 : ((done ++ [(c : Int), (row.length : Int)]).map V.int).length = done.length + 2 := by
              rw [List.length_map, List.length_append]
              rfl
            rw [h1, ← h2, List.take_left]
          have hsl : done.length + 2 ≤ ns.length := by
            rw [en, List.length_append, List.length_cons, List.length_append, List.length_cons]
            omega
          refine ⟨_, rfl, .inl ⟨rfl, _, SqL.of R.lst⟩, _, rfl, _, rfl, _, rfl, _, rfl, _, rfl, _, rfl, a, _, rfl, ha1, fun rp hrp => ?_⟩
          have ecut : cutV (ns.map V.int) (some (((done.length : Nat) : Int) + 1 + 1)) (some (((done.length : Nat) : Int) + 1 + 1 + ((row.length : Nat) : Int))) = vi row := by
            have h2 : ((ns.map V.int).take (done.length + 2)).length = done.length + 2 := by
              rw [List.length_take, List.length_map]
              omega
            have h := cut_mid ((ns.map V.int).take (done.length + 2)) (vi row) (rest.map V.int)
            rw [h2, vi_len, ← hst] at h
            rw [show (((done.length : Nat) : Int) + 1 + 1) = ((done.length + 2 : Nat) : Int) by omega, show (((done.length + 2 : Nat) : Int) + ((row.length : Nat) : Int)) = ((done.length + 2 + row.length : Nat) : Int) by omega]
            exact h
          rw [ecut]
          refine ⟨(by show 2 ≤ sizeLine; decide), fun tp htp => ?_⟩
          have tl := tail (done.length + 2) hst hsl (by omega) tp rp hrp htp
          rw [show (((done.length + 2 : Nat) : Int)) = ((done.length : Nat) : Int) + 1 + 1 by omega] at tl
          exact ⟨F, _, _, rfl, rfl, (same_put (same_new hrp) ((same_new hrp).free htp)) _ _ R.lst, few, tl⟩
        · rw [decide_eq_false c25]
          refine iteF ?_
          have ea : ahead c row = [] := if_neg c25
          rw [ea] at en
          have hrow : plainN c = row.length := by
            unfold plainN
            by_cases c0 : c = 0
            · rw [if_pos c0, pre.1 c0]
            · by_cases c1 : c = 1
              · rw [if_neg c0, if_pos c1, pre.2 c1]
              · rw [if_neg c0, if_neg c1, p6 (by omega)]
          rw [hrow]
          refine ⟨_, rfl, _, rfl, _, _, rfl, rfl, ?_⟩
          have hst : ns.map V.int = (ns.map V.int).take (done.length + 1) ++ (vi row ++ rest.map V.int) := by
            have h1 : ns.map V.int = (done ++ [(c : Int)]).map V.int ++ (vi row ++ rest.map V.int) := by
              rw [en, vi_ints, ← List.map_append, ← List.map_append, List.append_assoc]
              rfl
            have h2 : ((done ++ [(c : Int)]).map V.int).length = done.length + 1 := by
              rw [List.length_map, List.length_append]
              rfl
            rw [h1, ← h2, List.take_left]
          refine ⟨_, rfl, .inl ⟨rfl, _, SqL.of R.lst⟩, _, rfl, _, rfl, _, rfl, _, rfl, _, rfl, _, rfl, a, _, rfl, ha1, fun rp hrp => ?_⟩
          have ecut : cutV (ns.map V.int) (some (((done.length : Nat) : Int) + 1)) (some (((done.length : Nat) : Int) + 1 + ((row.length : Nat) : Int))) = vi row := by
            have h2 : ((ns.map V.int).take (done.length + 1)).length = done.length + 1 := by
              rw [List.length_take, List.length_map]
              omega
            have h := cut_mid ((ns.map V.int).take (done.length + 1)) (vi row) (rest.map V.int)
            rw [h2, vi_len, ← hst] at h
            rw [show (((done.length : Nat) : Int) + 1) = ((done.length + 1 : Nat) : Int) by omega, show (((done.length + 1 : Nat) : Int) + ((row.length : Nat) : Int)) = ((done.length + 1 + row.length : Nat) : Int) by omega]
            exact h
          rw [ecut]
          refine ⟨(by show 2 ≤ sizeLine; decide), fun tp htp => ?_⟩
          have tl := tail (done.length + 1) hst hlt (by omega) tp rp hrp htp
          rw [show (((done.length + 1 : Nat) : Int)) = ((done.length : Nat) : Int) + 1 by omega] at tl
          exact ⟨F, _, _, rfl, rfl, (same_put (same_new hrp) ((same_new hrp).free htp)) _ _ R.lst, few, tl⟩
    · rintro σ H1 Q1 Q2 h ⟨b1, b2, b3, b4, b5, b6, b7, b8, b9, b10, b11, b12, b13, b14, b15⟩
      exact ⟨b1, b2, b3, b4, b5, b6, b7, b8, b9, b10, b11, b12, b13, b14, h _ _ b15⟩
end
end Tw

set_option maxRecDepth 100000
set_option maxHeartbeats 2000000
namespace Tw
open PySem PySem.Spec PyProof.Rows L2
open Krcj (Game Plan)
open Krcm (Desk)

theorem DeskAt.putL {C : Addr} {G : Hp} {L : Addr} {H : Hp} {a : Addr} {x : Option Desk} {o : HO} (t : DeskAt C G L H a x) (gL : G L ≠ none) (aL : a ≠ L) : DeskAt C G L (upd H L o) a x := by
  cases x with
  | none =>
    obtain ⟨u, n, m, k, aw, ap, an, ag, ad, h⟩ := t
    exact ⟨u, n, m, k, aw, ap, an, ag, ad, by rw [upd_ne aL]; exact h⟩
  | some d =>
    obtain ⟨A, rfl, t, ok, hw, np, nn, ng, nd⟩ := t
    have wL : A.w ≠ L := fun e => gL (by rw [← e]; exact hw)
    exact ⟨A, rfl, ⟨by rw [upd_ne aL]; exact t.ins, by rw [upd_ne wL]; exact t.w, by rw [upd_ne np]; exact t.p, by rw [upd_ne nn]; exact t.n, by rw [upd_ne ng]; exact t.g, by rw [upd_ne nd]; exact t.d, t.wp, t.wn, t.wg, t.wd⟩, ok, hw, np, nn, ng, nd⟩
theorem Parsed.mem {l : List Int} {cs : List (Nat × List Nat)} (h : Parsed l cs) : ∀ q ∈ cs, q.1 ≤ 18 ∧ preCall q.1 q.2 ∧ q.2.length ≤ 255 := by
  induction h with
  | nil =>
    intro q hq
    cases hq
  | cons hc pre p6 hl t ih =>
    intro q hq
    rcases List.mem_cons.mp hq with rfl | hq
    · exact ⟨hc, pre, hl⟩
    · exact ih q hq
theorem run_cons (x : Option Desk) (q : Nat × List Nat) (cs : List (Nat × List Nat)) :
    run x (q :: cs) = ((KrcmNeutral.told (Krcm.act x (mkCall q.1 q.2)).2).length : Int) :: (KrcmNeutral.told (Krcm.act x (mkCall q.1 q.2)).2 ++ run (Krcm.act x (mkCall q.1 q.2)).1 cs) := rfl
theorem some_ne {o : Option HO} {u : HO} (h : o = some u) : o ≠ none := by
  rw [h]
  intro z
  cases z

section
variable {P : Program} {w : World} {K : PySem.W.Frag} {mg : Str → Option Value} {base : Heap} {C : Addr}
abbrev sAns : Stmt := top 60
theorem scAns : FnScope ["calls", "table", "told", "number", "row", "numbers"] ["calls"] (defScope sAns) := ⟨rfl, rfl, rfl, by decide +kernel, rfl, by decide +kernel, by decide +kernel⟩
def spAns (n : Nat) (K : PySem.W.Frag) : Sp := fun vs H Q _ => ∃ (a : Addr) (ns : List Int) (cs : List (Nat × List Nat)), vs = [.ref a] ∧ SqL K H a (ns.map V.int) ∧ Parsed ns cs ∧ cs.length ≤ 40 ∧ (∀ q ∈ cs, q.1 ≤ n) ∧ (run none cs).length ≤ 10000000 ∧
  ∀ (H' : Hp) (p : Addr), H' p = some (.lst ((run none cs).map V.int)) → Q (.ref p) H'
theorem ok_ans {f fI : Addr} {fd fdI : FuncData} {n : Nat} (T : Txt K mg C) (F0 : Fun K "answers" "answers" sAns f fd) (Gr : Has P w K mg base 1 "read_calls" (spRead K)) (Ga : Has P w K mg base 10 "answer" (spAnswer C n))
    (M : Mk K C fI) (GI : FnOk P w K mg base CX0 1 fI fdI ["self"] (spInit C)) (bI : Binds K fdI ["self"] []) (mT : mg "Table" = some (.ref C)) : FnOk P w K mg base CX0 11 f fd ["calls"] (spAns n K) := by
  refine F0.ok scAns (fun vs H Q E h => ?_) (fun cdv A0 outer s0 H vs Q E hr h => ?_)
  · obtain ⟨a, ns, cs, rfl, _⟩ := h
    rfl
  · obtain ⟨a, ns, cs, rfl, ha, pn, h40, hn, hlen, q⟩ := h
    refine ⟨_, pss_cons (ps_set (i := 1) scAns.nd rfl (Or.inl rfl) (pe_make0 M GI (hr.mono (by decide)) rfl mT bI .nil pass0))
      (pss_cons (ps_set (i := 2) scAns.nd rfl (Or.inl rfl) (pe_lst pa_nil))
      (pss_cons (ps_for PassesOwn.never rfl (pi_list (pe_h Gr hr (by decide) (by rfl) (pa_cons (pv 0) pa_nil))) (pg_tup rfl (pgs_cons (pg_name (i := 3) scAns.nd rfl (Or.inl rfl)) (pgs_cons (pg_name (i := 4) scAns.nd rfl (Or.inl rfl)) pgs_nil)))
        (pss_cons (ps_set (i := 5) scAns.nd rfl (Or.inl rfl) (pe_h Ga hr (by decide) (by rfl) (pa_cons (pv 1) (pa_cons (pv 3) (pa_cons (pv 4) pa_nil)))))
        (pss_cons (ps_expr (pe_bm PySem.F.plainAttrs_list PySem.F.slot_list_append PySem.F.type_list_append mt_append (pv 2) (pa_cons (pe_callB call_len_seq (by rfl) T.mlen PySem.boot_len (pa_cons (pv 5) pa_nil)) pa_nil)))
        (pss_one (ps_expr (pe_bm PySem.F.plainAttrs_list PySem.F.slot_list_extend PySem.F.type_list_extend mt_extend (pv 2) (pa_cons (pv 5) pa_nil)))))))
      (pss_one (ps_ret (pv 2))))), ?_⟩
    intro tb dx ntb ndx nex
    refine ⟨tb, dx, rfl, upd_same, fun H1 aw ap an ag ad m => ⟨rfl, ?_⟩⟩
    have s1 : Same H H1 := fun b o hb => m.but b o (ne_of_none hb ntb) (by rw [upd_ne (ne_of_none hb ntb), upd_ne (ne_of_none hb ndx)]; exact hb)
    refine ⟨Nat.zero_le _, fun L hL => ?_⟩
    have s2 : Same H1 (upd H1 L (.lst [])) := same_new hL
    have tb2 := s2 _ _ m.ins
    have L2' : (upd H1 L (.lst [])) L = some (.lst []) := upd_same
    generalize upd H1 L (.lst []) = H2 at s2 tb2 L2' ⊢
    refine ⟨_, rfl, a, ns, cs, rfl, (s1.trans s2).seq ha, pn, h40, fun G F ts s3 R hF ets => ?_⟩
    have tb3 := s3 _ _ tb2
    have L3 := s3 _ _ L2'
    have tL : tb ≠ L := ne_of tb3 L3 (by intro z; cases z)
    have gL : G L ≠ none := some_ne L3
    have ga : G tb ≠ none := some_ne tb3
    have FL : F ≠ L := fun e => by rw [e, L2'] at hF; cases hF
    have Ft : F ≠ tb := ne_of R.lst tb3 (by intro z; cases z)
    have pm := pn.mem
    refine ⟨F, rfl, ⟨_, SqL.of R.lst⟩, ?_⟩
    refine for_list (K := K) (a := F) (xs := ts.map fun q => V.ref q.t) (fun i σ H' => ∃ (x : Option Desk) (acc : List Int) (v3 v4 v5 : Option V), σ = [some (.ref a), some (.ref tb), some (.ref L), v3, v4, v5] ∧ DeskAt C G L H' tb x ∧
        (∀ b o, b ≠ tb → b ≠ L → G b = some o → H' b = some o) ∧ H' L = some (.lst (acc.map V.int)) ∧ acc ++ run x (cs.drop i) = run none cs)
      ⟨none, [], none, none, none, rfl, ⟨dx, 0, 0, 0, aw, ap, an, ag, ad, tb3⟩, fun _ _ _ _ h => h, L3, rfl⟩ (fun i σ H' _ ⟨_, _, _, _, _, _, _, kp, _⟩ => SqL.of (kp _ _ Ft FL R.lst)) ?_ ?_
    · rintro i y σ H4 hi ⟨x, acc, v3, v4, v5, rfl, dk, kp, hL4, er⟩
      rw [List.getElem?_map] at hi
      cases eq1 : ts[i]? with
      | none =>
        rw [eq1] at hi
        cases hi
      | some c =>
        rw [eq1] at hi
        obtain rfl : V.ref c.t = y := Option.some.inj hi
        have cm := List.mem_of_getElem? eq1
        obtain ⟨c1, c2, c3, c4⟩ := R.one c cm
        have rL : c.r ≠ L := fun e => by rw [e, L2'] at c3; cases c3
        have tpL : c.t ≠ L := fun e => by rw [e, L2'] at c4; cases c4
        have ecs : cs[i]? = some (c.c, c.row) := by
          rw [← ets, List.getElem?_map, eq1]
          rfl
        have hm := pm _ (List.mem_of_getElem? ecs)
        have hlt : i < cs.length := (List.getElem?_eq_some_iff.mp ecs).1
        have edrop : cs.drop i = (c.c, c.row) :: cs.drop (i + 1) := by
          rw [List.drop_eq_getElem_cons hlt]
          congr 1
          exact Option.some.inj ((List.getElem?_eq_getElem hlt).symm.trans ecs)
        have hd4 : Fr G L tb H4 := by
          refine ⟨fun b hb => ?_, gL, ga⟩
          by_cases b1 : b = tb
          · obtain ⟨u, n0, m0, k0, w0, p0, q0, g0, d0, h⟩ := dk.ins
            rw [b1]
            exact some_ne h
          · by_cases b2 : b = L
            · rw [b2]
              exact some_ne hL4
            · cases e : G b with
              | none => exact absurd e hb
              | some o => exact some_ne (kp b o b1 b2 e)
        refine ⟨c.t, _, rfl, SqT.of (kp _ _ (ne_of c1 tb3 (by intro z; cases z)) tpL c1), rfl, ?_⟩
        refine ⟨_, _, rfl, _, _, rfl, rfl, ?_⟩
        refine ⟨_, rfl, _, rfl, _, rfl, G, L, tb, x, c.c, c.r, c.row, rfl, hd4, dk, kp _ _ (ne_of c2 tb3 (by intro z; cases z)) rL c2, some_ne c2, rL, hm.2.2, hm.2.1, hn _ (List.mem_of_getElem? ecs), fun H5 p af => ?_⟩
        have hL5 := af.kp L _ (fun e => tL e.symm) gL hL4
        have pL : p ≠ L := fun e => gL (by rw [← e]; exact af.new)
        rw [edrop, run_cons] at er
        have hbound : acc.length + 1 + (KrcmNeutral.told (Krcm.act x (mkCall c.c c.row)).2).length ≤ 10000000 := by
          have h := congrArg List.length er
          rw [List.length_append, List.length_cons, List.length_append] at h
          simp only at h
          omega
        have big : 10000000 < sizeLine := by decide
        refine ⟨_, rfl, .inl ⟨rfl, _, SqL.of hL5⟩, _, rfl, p, _, rfl, .inl (SqL.of af.ans), L, _, _, rfl, rfl, hL5, (by rw [List.length_map]; omega), ?_⟩
        refine ⟨_, rfl, .inl ⟨rfl, _, SqL.of upd_same⟩, _, rfl, L, p, _, _, rfl, rfl, upd_same, (by rw [upd_ne pL]; exact af.ans), ?_, ?_⟩
        · rw [List.length_append, List.length_map, List.length_map]
          show acc.length + 1 + _ ≤ sizeLine
          omega
        · refine ⟨(Krcm.act x (mkCall c.c c.row)).1, acc ++ (((KrcmNeutral.told (Krcm.act x (mkCall c.c c.row)).2).length : Int) :: KrcmNeutral.told (Krcm.act x (mkCall c.c c.row)).2), _, _, _, rfl, (af.desk.putL gL tL).putL gL tL, ?_, ?_, ?_⟩
          · intro b o b1 b2 hb
            rw [upd_ne b2, upd_ne b2]
            exact af.kp b o b1 (some_ne hb) (kp b o b1 b2 hb)
          · rw [upd_same, List.length_map, List.map_append, List.map_cons, List.append_assoc]
            rfl
          · rw [← er, List.append_assoc]
            rfl
    · rintro σ H4 ⟨x, acc, v3, v4, v5, rfl, dk, kp, hL4, er⟩
      refine ⟨_, rfl, q H4 L ?_⟩
      have e : cs.drop (ts.map fun q => V.ref q.t).length = [] := by
        rw [List.drop_eq_nil_iff, ← ets, List.length_map, List.length_map]
        exact Nat.le_refl _
      rw [e] at er
      have er' : acc ++ [] = run none cs := er
      rw [List.append_nil] at er'
      rw [← er']
      exact hL4
end
end Tw

set_option maxRecDepth 100000
set_option maxHeartbeats 4000000
namespace Tw
open PySem PySem.Spec PyProof.Rows L2
theorem dfn_mk {K : PySem.W.Frag} {h : Heap} {mg : Str → Option Value} {x : Str} {st : Stmt} {f : Addr} {oc : Value} {od an : Option Addr} {sl : Array (Option Value)} {kV dc pm cd ct : Value} (X : K.In h) (G : h.Ns mainGlobals mg)
    (a : PySem.W.nsIn K mainGlobals x = some (some (.ref f))) (l : K.lookup f = some ⟨oc, od, .func (PySem.W.fnOf x x (defArgs st) (defBody st) (defScope st) .none kV dc pm an cd ct), sl⟩)
    (c : PySem.W.codeIn K cd x = true) (k : PySem.W.keepIn K (.ref f) = true) : Dfn K mg x st :=
  ⟨f, _, fun_mk l c k, PySem.W.mg_of X G a⟩
theorem cst_mk {K : PySem.W.Frag} {h : Heap} {mg : Str → Option Value} {x : Str} {i : Int} {t : Tok} (X : K.In h) (G : h.Ns mainGlobals mg) (a : PySem.W.nsIn K mainGlobals x = some (some (.int i t))) : ∃ t, mg x = some (.int i t) := ⟨t, PySem.W.mg_of X G a⟩
/-- a written dict: what its entries are -/
def entI (e : DictEntry) : Int × Value := ((match e.key with
  | .int k _ => k
  | _ => 0), e.val)
def DctIs (K : PySem.W.Frag) (mg : Str → Option Value) (x : Str) (es : List (Int × Value)) : Prop := ∃ (a : Addr) (ds : Array DictEntry) (n : Nat), mg x = some (.ref a) ∧ (a == sysModules) = false ∧ K.lookup a = some ⟨.type "dict", none, .dict ds n, #[]⟩ ∧ IntLit ds.toList ∧ ds.toList.map entI = es
theorem find_int : ∀ {l : List DictEntry} {k : Int}, IntLit l → (l.find? fun e => Value.isInt k e.key).map (·.val) = ((l.map entI).find? fun e => e.1 == k).map (·.2)
  | [], k, _ => rfl
  | d :: l, k, h => by
    obtain ⟨⟨z, t, e1, _⟩, h2⟩ := h
    have ih := find_int (k := k) h2
    have e2 : entI d = (z, d.val) := by
      unfold entI
      rw [e1]
    rw [List.map_cons, List.find?_cons, List.find?_cons, e2, e1]
    by_cases c : k = z
    · subst c
      have e3 : Value.isInt k (.int k t) = true := by simp [Value.isInt]
      rw [e3, show ((k, d.val).1 == k) = true from beq_self_eq_true k]
      rfl
    · have e3 : Value.isInt k (.int z t) = false := by simp [Value.isInt]; omega
      rw [e3, show ((z, d.val).1 == k) = false from beq_eq_false_iff_ne.mpr fun q => c q.symm]
      exact ih
theorem DctIs.int {K : PySem.W.Frag} {mg : Str → Option Value} {x : Str} {es : List (Int × Value)} (h : DctIs K mg x es) : ∃ a : Addr, mg x = some (.ref a) ∧ (a == sysModules) = false ∧ ∀ k : Int, KInt K a k ((es.find? fun e => e.1 == k).map (·.2)) := by
  obtain ⟨a, ds, n, hm, hs, hl, lit, e⟩ := h
  refine ⟨a, hm, hs, fun k => ⟨ds, n, hl, lit, ?_⟩⟩
  rw [← e, ← find_int (k := k) lit]
  unfold findBy
  rw [← Array.find?_toList]
theorem dct_mk {K : PySem.W.Frag} {h : Heap} {mg : Str → Option Value} {x : Str} {a : Addr} {ds : Array DictEntry} {n : Nat} {es : List (Int × Value)} (X : K.In h) (G : h.Ns mainGlobals mg) (e : PySem.W.nsIn K mainGlobals x = some (some (.ref a)))
    (l : K.lookup a = some ⟨.type "dict", none, .dict ds n, #[]⟩) (s : (a == sysModules) = false) (i : IntLit ds.toList) (m : ds.toList.map entI = es) : DctIs K mg x es := ⟨a, ds, n, PySem.W.mg_of X G e, s, l, i, m⟩
theorem tup_mk {K : PySem.W.Frag} {h : Heap} {mg : Str → Option Value} {x : Str} {a : Addr} {o : Obj} {its : Array Value} {n : Nat} {vs : List V} (X : K.In h) (G : h.Ns mainGlobals mg) (e : PySem.W.nsIn K mainGlobals x = some (some (.ref a)))
    (l : K.lookup a = some o) (c : o.cls = .type "tuple" ∧ o.data = .seq its n ∧ its.size ≤ sizeLine ∧ Vals vs its.toList) : ∃ lA : Addr, mg x = some (.ref lA) ∧ ∀ H : Hp, SqT K H lA vs :=
  ⟨a, PySem.W.mg_of X G e, fun H => .inr ⟨o, its, n, l, c⟩⟩
theorem Has.kept {P : Program} {w : World} {K : PySem.W.Frag} {mg : Str → Option Value} {base : Heap} {k j : Nat} {x : Str} {sp sp' : Sp} {e : Addr} (h : Has P w K mg base k x sp) (hm : mg x = some (.ref e)) (hj : k ≤ j) (hi : ∀ vs H Q E, sp' vs H Q E → sp vs H Q E) : Kept P w K mg base j e sp' := by
  obtain ⟨f, fd, ps, F, m, kp, b⟩ := h.ex
  have q := m.symm.trans hm
  have q2 : f = e := by
    injection q with q
    injection q
  subst q2
  exact ⟨k, fd, ps, hj, F.imp hi, kp, b⟩
theorem all_mk {P : Program} {w : World} {K : PySem.W.Frag} {h : Heap} {mg : Str → Option Value} {fa C f1 f2 f3 : Addr} (X : K.In h) (G : h.Ns mainGlobals mg) (hfa : mg "answers" = some (.ref fa))
    {od1 an1 od2 an2 od3 an3 : Option Addr} {sl1 sl2 sl3 : Array (Option Value)} {oc1 kV1 dc1 pm1 cd1 ct1 oc2 kV2 dc2 pm2 cd2 ct2 oc3 kV3 dc3 pm3 cd3 ct3 : Value}
    (d0 : Dfn K mg "weighted" sWeighted)
    (d1 : Dfn K mg "worth_by" sWorthBy)
    (d2 : Dfn K mg "most_to_giver" sMostG)
    (d3 : Dfn K mg "worth_of_act" sWorthA)
    (d4 : Dfn K mg "most_to_actor" sMostA)
    (d5 : Dfn K mg "rests_for_giver" sRestG)
    (d6 : Dfn K mg "rests_for_actor" sRestA)
    (d7 : Dfn K mg "rests_for_both" sRestB)
    (d8 : Dfn K mg "all_rows" sRows)
    (d9 : Dfn K mg "all_plans" sAll)
    (d10 : Dfn K mg "plans_at_rest" sPlans)
    (d11 : Dfn K mg "worths_by" sWorths)
    (d12 : Dfn K mg "best_to_actor" sBestA)
    (d13 : Dfn K mg "told_apart" sTold)
    (d14 : Dfn K mg "first_best_act" sFirst)
    (d15 : Dfn K mg "nothing_plan" sNothing)
    (d16 : Dfn K mg "honest_plan" sHonest)
    (d17 : Dfn K mg "envies" sEnv)
    (d18 : Dfn K mg "envious_twos" sTwos)
    (d19 : Dfn K mg "all_within" sWithin)
    (d20 : Dfn K mg "is_right" sRight)
    (d21 : Dfn K mg "begin" sBegin)
    (d22 : Dfn K mg "set_weight" sWeight)
    (d23 : Dfn K mg "set_pays" sPays)
    (d24 : Dfn K mg "set_wants" sWants)
    (d25 : Dfn K mg "set_signs" sSigns)
    (d26 : Dfn K mg "set_acts" sActs)
    (d27 : Dfn K mg "both_worths" sBoth)
    (d28 : Dfn K mg "whole_plan" sWhole)
    (d29 : Dfn K mg "first_with_most" sFWM)
    (d30 : Dfn K mg "tell_worth" sTWorth)
    (d31 : Dfn K mg "tell_rest" sTRest)
    (d32 : Dfn K mg "tell_better" sTBetter)
    (d33 : Dfn K mg "tell_rests" sTRests)
    (d34 : Dfn K mg "tell_mosttold" sTMost)
    (d35 : Dfn K mg "tell_bestgiver" sTGiver)
    (d36 : Dfn K mg "tell_bestactor" sTActor)
    (d37 : Dfn K mg "tell_nothing" sTNothing)
    (d38 : Dfn K mg "tell_honest" sTHonest)
    (d39 : Dfn K mg "tell_envies" sTEnvies)
    (d40 : Dfn K mg "tell_agree" sTAgree)
    (d41 : Dfn K mg "tell_cost" sTCost)
    (d42 : Dfn K mg "tell_state" sTState)
    (d43 : Dfn K mg "answer" sAnswer)
    (d44 : Dfn K mg "plain_pays" sPlain)
    (d45 : Dfn K mg "read_calls" sRead)
    (aC : PySem.W.nsIn K mainGlobals "Table" = some (some (.ref C)))
    (a1 : PySem.W.findIn K (.ref C) "__init__" = some (some (.ref f1))) (i1 : PySem.W.isFn K (.ref f1) = true) (l1 : K.lookup f1 = some ⟨oc1, od1, .func (PySem.W.fnOf "__init__" "Table.__init__" (defArgs sInit) (defBody sInit) (defScope sInit) .none kV1 dc1 pm1 an1 cd1 ct1), sl1⟩) (c1 : PySem.W.codeIn K cd1 "Table.__init__" = true) (k1 : PySem.W.keepIn K (.ref f1) = true)
    (a2 : PySem.W.findIn K (.ref C) "begin" = some (some (.ref f2))) (i2 : PySem.W.isFn K (.ref f2) = true) (l2 : K.lookup f2 = some ⟨oc2, od2, .func (PySem.W.fnOf "begin" "Table.begin" (defArgs sTBegin) (defBody sTBegin) (defScope sTBegin) .none kV2 dc2 pm2 an2 cd2 ct2), sl2⟩) (c2 : PySem.W.codeIn K cd2 "Table.begin" = true) (k2 : PySem.W.keepIn K (.ref f2) = true)
    (a3 : PySem.W.nsIn K mainGlobals "answers" = some (some (.ref f3))) (l3 : K.lookup f3 = some ⟨oc3, od3, .func (PySem.W.fnOf "answers" "answers" (defArgs sAns) (defBody sAns) (defScope sAns) .none kV3 dc3 pm3 an3 cd3 ct3), sl3⟩) (c3 : PySem.W.codeIn K cd3 "answers" = true) (k3 : PySem.W.keepIn K (.ref f3) = true)
    (pg : PySem.W.plainGet K C Str.empty = true) (hd : PySem.W.hasDictIn K C = true) (po : PySem.W.plainOver K C = true) (sa : PySem.W.findIn K (.ref C) "__setattr__" = some (some (.builtin "object.__setattr__"))) (mk : PySem.W.makesIn K C = true) (kc : PySem.W.keepIn K (.ref C) = true)
    (n0 : PySem.W.findIn K (.ref C) "begun" = some none) (n1 : PySem.W.findIn K (.ref C) "ways" = some none) (n2 : PySem.W.findIn K (.ref C) "signs" = some none) (n3 : PySem.W.findIn K (.ref C) "acts" = some none) (n4 : PySem.W.findIn K (.ref C) "weights" = some none) (n5 : PySem.W.findIn K (.ref C) "pays" = some none) (n6 : PySem.W.findIn K (.ref C) "wants" = some none) (n7 : PySem.W.findIn K (.ref C) "given" = some none) (n8 : PySem.W.findIn K (.ref C) "done" = some none)
    (b0 : PySem.W.nsIn K mainGlobals "range" = some none) (b1 : PySem.W.nsIn K mainGlobals "sum" = some none) (b2 : PySem.W.nsIn K mainGlobals "max" = some none) (b3 : PySem.W.nsIn K mainGlobals "all" = some none) (b4 : PySem.W.nsIn K mainGlobals "len" = some none) (b5 : PySem.W.nsIn K mainGlobals "set" = some none) (b6 : PySem.W.nsIn K mainGlobals "list" = some none) (b7 : PySem.W.nsIn K mainGlobals "zip" = some none) (b8 : PySem.W.nsIn K mainGlobals "any" = some none)
    (q0 : ∃ t, mg "NOT_RIGHT" = some (.int (-22) t)) (q1 : ∃ t, mg "NO_SUCH_WAY" = some (.int (-2) t)) (q2 : ∃ t, mg "NOT_BEGUN" = some (.int (-11) t)) (q3 : ∃ t, mg "BEGIN" = some (.int (0) t)) (q4 : ∃ t, mg "CANNOT_BE" = some (.int (-33) t))
    {t1 t2 : Tok} {g1 g2 g3 g4 g5 g6 g7 g8 g9 g10 g11 g12 g13 g14 g15 g16 g17 g18 : Addr} (m1 : PySem.W.nsIn K mainGlobals "set_weight" = some (some (.ref g1))) (m2 : PySem.W.nsIn K mainGlobals "set_pays" = some (some (.ref g2))) (m3 : PySem.W.nsIn K mainGlobals "set_wants" = some (some (.ref g3))) (m4 : PySem.W.nsIn K mainGlobals "set_signs" = some (some (.ref g4))) (m5 : PySem.W.nsIn K mainGlobals "set_acts" = some (some (.ref g5))) (m6 : PySem.W.nsIn K mainGlobals "tell_worth" = some (some (.ref g6))) (m7 : PySem.W.nsIn K mainGlobals "tell_rest" = some (some (.ref g7))) (m8 : PySem.W.nsIn K mainGlobals "tell_better" = some (some (.ref g8))) (m9 : PySem.W.nsIn K mainGlobals "tell_rests" = some (some (.ref g9))) (m10 : PySem.W.nsIn K mainGlobals "tell_mosttold" = some (some (.ref g10))) (m11 : PySem.W.nsIn K mainGlobals "tell_bestgiver" = some (some (.ref g11))) (m12 : PySem.W.nsIn K mainGlobals "tell_bestactor" = some (some (.ref g12))) (m13 : PySem.W.nsIn K mainGlobals "tell_nothing" = some (some (.ref g13))) (m14 : PySem.W.nsIn K mainGlobals "tell_honest" = some (some (.ref g14))) (m15 : PySem.W.nsIn K mainGlobals "tell_envies" = some (some (.ref g15))) (m16 : PySem.W.nsIn K mainGlobals "tell_agree" = some (some (.ref g16))) (m17 : PySem.W.nsIn K mainGlobals "tell_cost" = some (some (.ref g17))) (m18 : PySem.W.nsIn K mainGlobals "tell_state" = some (some (.ref g18)))
    (eP : DctIs K mg "PLAIN" [(0, .int 3 t1), (1, .int 2 t2)]) (eC : DctIs K mg "CALLS" [(1, .ref g1), (2, .ref g2), (3, .ref g3), (4, .ref g4), (5, .ref g5), (6, .ref g6), (7, .ref g7), (8, .ref g8), (9, .ref g9), (10, .ref g10), (11, .ref g11), (12, .ref g12), (13, .ref g13), (14, .ref g14), (15, .ref g15), (16, .ref g16), (17, .ref g17), (18, .ref g18)])
    (eL : ∃ lA : Addr, mg "LISTED" = some (.ref lA) ∧ ∀ H : Hp, SqT K H lA [V.int 2, V.int 3, V.int 4, V.int 5]) :
    ∃ fd : FuncData, (∀ (s : Shared) (us : List Value), us.length = (["calls"] : List Str).length → BindsTo s fd ⟨us, []⟩ ((["calls"] : List Str).zip us)) ∧ ∀ base : Heap, K.In base → base.Ns mainGlobals mg → FnOk P w K mg base CX0 11 fa fd ["calls"] (spAns 18 K) := by
  have e := hfa.symm.trans (PySem.W.mg_of X G a3)
  cases e
  have T : Txt K mg C := ⟨⟨pg, hd, po, sa⟩, n0, n1, n2, n3, n4, n5, n6, n7, n8, PySem.W.mg_none_of X G b0, PySem.W.mg_none_of X G b1, PySem.W.mg_none_of X G b2, PySem.W.mg_none_of X G b3, PySem.W.mg_none_of X G b4, PySem.W.mg_none_of X G b5, PySem.W.mg_none_of X G b6, PySem.W.mg_none_of X G b7, PySem.W.mg_none_of X G b8⟩
  have N : Cst mg := ⟨q0, q1, q2, q3, q4⟩
  have B : Tbl K mg := by
    obtain ⟨pA, h1, h2, h3⟩ := eP.int
    refine ⟨⟨pA, h1, h2, ⟨t1, h3 0⟩, ⟨t2, h3 1⟩, fun c hc => ?_⟩, eL⟩
    have q := h3 c
    rw [List.find?_cons, show ((0 : Int) == c) = false from beq_eq_false_iff_ne.mpr (by omega), List.find?_cons, show ((1 : Int) == c) = false from beq_eq_false_iff_ne.mpr (by omega)] at q
    exact q
  have F1 := fun_mk (st := sInit) l1 c1 k1
  have F2 := fun_mk (st := sTBegin) l2 c2 k2
  have F3 := fun_mk (st := sAns) l3 c3 k3
  have b1 := F1.binds (ps := ["self"]) fun _ _ _ _ _ _ us hl => match us, hl with
    | [_], _ => rfl
  have b2 := F2.binds (ps := ["self", "ways", "signs", "acts"]) fun _ _ _ _ _ _ us hl => match us, hl with
    | [_, _, _, _], _ => rfl
  refine ⟨PySem.W.fnOf "answers" "answers" (defArgs sAns) (defBody sAns) (defScope sAns) .none kV3 dc3 pm3 an3 cd3 ct3, fun s us hu => match us, hu with
    | [_], _ => .of_eq rfl, fun base _ _ => ?_⟩
  have h0 := ok_weighted (P := P) (w := w) (base := base) T d0 
  have h1 := ok_worthBy (P := P) (w := w) (base := base) T d1 h0
  have h2 := ok_mostG (P := P) (w := w) (base := base) T d2 h0
  have h3 := ok_worthA (P := P) (w := w) (base := base) T d3 h0
  have h4 := ok_mostA (P := P) (w := w) (base := base) T d4 h3
  have h5 := ok_restG (P := P) (w := w) (base := base) T d5 h1 h2
  have h6 := ok_restA (P := P) (w := w) (base := base) T d6 h1 h4
  have h7 := ok_restB (P := P) (w := w) (base := base) T d7 h5 h6
  have h8 := ok_rows (P := P) (w := w) (base := base) T d8 
  have h9 := ok_all (P := P) (w := w) (base := base) T d9 h8
  have h10 := ok_plans (P := P) (w := w) (base := base) T d10 h9 h7
  have h11 := ok_worths (P := P) (w := w) (base := base) T d11 h1
  have h12 := ok_bestA (P := P) (w := w) (base := base) T d12 h8 h4
  have h13 := ok_told (P := P) (w := w) (base := base) T d13 
  have h14 := ok_first (P := P) (w := w) (base := base) T d14 h3
  have h15 := ok_nothing (P := P) (w := w) (base := base) T d15 h14
  have h16 := ok_honest (P := P) (w := w) (base := base) T d16 h14
  have h17 := ok_env (P := P) (w := w) (base := base) T d17 h0
  have h18 := ok_twos (P := P) (w := w) (base := base) T d18 h16 h17
  have h19 := ok_within (P := P) (w := w) (base := base) T d19 
  have h20 := ok_right (P := P) (w := w) (base := base) T d20 h19
  have h22 := ok_weight (P := P) (w := w) (base := base) T N d22 h19
  have h23 := ok_pays (P := P) (w := w) (base := base) T N d23 h20
  have h24 := ok_wants (P := P) (w := w) (base := base) T N d24 h20
  have h25 := ok_signs (P := P) (w := w) (base := base) T N d25 h20
  have h26 := ok_acts (P := P) (w := w) (base := base) T N d26 h20
  have h27 := ok_both (P := P) (w := w) (base := base) T d27 h1
  have h28 := ok_whole (P := P) (w := w) (base := base) T d28 h27
  have h29 := ok_fwm (P := P) (w := w) (base := base) T d29 
  have h30 := ok_tworth (P := P) (w := w) (base := base) T d30 h27
  have h31 := ok_trest (P := P) (w := w) (base := base) T d31 h7
  have h32 := ok_tbetter (P := P) (w := w) (base := base) T d32 h2 h4
  have h33 := ok_trests (P := P) (w := w) (base := base) T d33 h10 h13
  have h34 := ok_tmost (P := P) (w := w) (base := base) T d34 h10 h13 h29 h28
  have h35 := ok_tgiver (P := P) (w := w) (base := base) T d35 h10 h11 h29 h28
  have h36 := ok_tactor (P := P) (w := w) (base := base) T d36 h10 h11 h29 h28
  have h37 := ok_tnothing (P := P) (w := w) (base := base) T d37 h15 h28
  have h38 := ok_thonest (P := P) (w := w) (base := base) T N d38 h16 h7 h27
  have h39 := ok_tenvies (P := P) (w := w) (base := base) T N d39 h18
  have h40 := ok_tagree (P := P) (w := w) (base := base) T d40 h10 h11
  have h41 := ok_tcost (P := P) (w := w) (base := base) T d41 h12 h10 h11
  have h42 := ok_tstate (P := P) (w := w) (base := base) T d42 
  have h44 := ok_plain (P := P) (w := w) (base := base) T d44 
  have h45 := ok_read (P := P) (w := w) (base := base) T B d45 
  have hM : Mtd P w K mg base C 2 "begin" (spTBegin C) := ⟨f2, _, _, ⟨a2, i2, k2⟩, ok_tbegin T F2 h44, b2⟩
  have hB := ok_begin T N d21 h19 hM
  obtain ⟨cA, hC1, _, hC3⟩ := eC.int
  have TC : Calls P w K mg base C 9 18 cA := by
    intro c c1 c9
    have q := hC3 c
    match c, c1, c9 with
    | 1, _, _ =>
      refine ⟨g1, q, h22.kept (PySem.W.mg_of X G m1) (by decide) fun vs H Q E z => ?_⟩
      obtain ⟨G0, L, a, d, r, l, e1, e2, e3, e4, e5, e6, e7, hp, e9⟩ := z
      exact ⟨G0, L, a, d, r, l, e1, e2, e3, e4, e5, e6, e7, hp.2 rfl, e9⟩
    | 2, _, _ =>
      refine ⟨g2, q, h23.kept (PySem.W.mg_of X G m2) (by decide) fun vs H Q E z => ?_⟩
      obtain ⟨G0, L, a, d, r, l, e1, e2, e3, e4, e5, e6, e7, hp, e9⟩ := z
      exact ⟨G0, L, a, d, r, l, e1, e2, e3, e4, e5, e6, e7, trivial, e9⟩
    | 3, _, _ =>
      refine ⟨g3, q, h24.kept (PySem.W.mg_of X G m3) (by decide) fun vs H Q E z => ?_⟩
      obtain ⟨G0, L, a, d, r, l, e1, e2, e3, e4, e5, e6, e7, hp, e9⟩ := z
      exact ⟨G0, L, a, d, r, l, e1, e2, e3, e4, e5, e6, e7, trivial, e9⟩
    | 4, _, _ =>
      refine ⟨g4, q, h25.kept (PySem.W.mg_of X G m4) (by decide) fun vs H Q E z => ?_⟩
      obtain ⟨G0, L, a, d, r, l, e1, e2, e3, e4, e5, e6, e7, hp, e9⟩ := z
      exact ⟨G0, L, a, d, r, l, e1, e2, e3, e4, e5, e6, e7, trivial, e9⟩
    | 5, _, _ =>
      refine ⟨g5, q, h26.kept (PySem.W.mg_of X G m5) (by decide) fun vs H Q E z => ?_⟩
      obtain ⟨G0, L, a, d, r, l, e1, e2, e3, e4, e5, e6, e7, hp, e9⟩ := z
      exact ⟨G0, L, a, d, r, l, e1, e2, e3, e4, e5, e6, e7, trivial, e9⟩
    | 6, _, _ =>
      refine ⟨g6, q, h30.kept (PySem.W.mg_of X G m6) (by decide) fun vs H Q E z => ?_⟩
      obtain ⟨G0, L, a, d, r, l, e1, e2, e3, e4, e5, e6, e7, hp, e9⟩ := z
      exact ⟨G0, L, a, d, r, l, e1, e2, e3, e4, e5, e6, e7, trivial, e9⟩
    | 7, _, _ =>
      refine ⟨g7, q, h31.kept (PySem.W.mg_of X G m7) (by decide) fun vs H Q E z => ?_⟩
      obtain ⟨G0, L, a, d, r, l, e1, e2, e3, e4, e5, e6, e7, hp, e9⟩ := z
      exact ⟨G0, L, a, d, r, l, e1, e2, e3, e4, e5, e6, e7, trivial, e9⟩
    | 8, _, _ =>
      refine ⟨g8, q, h32.kept (PySem.W.mg_of X G m8) (by decide) fun vs H Q E z => ?_⟩
      obtain ⟨G0, L, a, d, r, l, e1, e2, e3, e4, e5, e6, e7, hp, e9⟩ := z
      exact ⟨G0, L, a, d, r, l, e1, e2, e3, e4, e5, e6, e7, trivial, e9⟩
    | 9, _, _ =>
      refine ⟨g9, q, h33.kept (PySem.W.mg_of X G m9) (by decide) fun vs H Q E z => ?_⟩
      obtain ⟨G0, L, a, d, r, l, e1, e2, e3, e4, e5, e6, e7, hp, e9⟩ := z
      exact ⟨G0, L, a, d, r, l, e1, e2, e3, e4, e5, e6, e7, trivial, e9⟩
    | 10, _, _ =>
      refine ⟨g10, q, h34.kept (PySem.W.mg_of X G m10) (by decide) fun vs H Q E z => ?_⟩
      obtain ⟨G0, L, a, d, r, l, e1, e2, e3, e4, e5, e6, e7, hp, e9⟩ := z
      exact ⟨G0, L, a, d, r, l, e1, e2, e3, e4, e5, e6, e7, trivial, e9⟩
    | 11, _, _ =>
      refine ⟨g11, q, h35.kept (PySem.W.mg_of X G m11) (by decide) fun vs H Q E z => ?_⟩
      obtain ⟨G0, L, a, d, r, l, e1, e2, e3, e4, e5, e6, e7, hp, e9⟩ := z
      exact ⟨G0, L, a, d, r, l, e1, e2, e3, e4, e5, e6, e7, trivial, e9⟩
    | 12, _, _ =>
      refine ⟨g12, q, h36.kept (PySem.W.mg_of X G m12) (by decide) fun vs H Q E z => ?_⟩
      obtain ⟨G0, L, a, d, r, l, e1, e2, e3, e4, e5, e6, e7, hp, e9⟩ := z
      exact ⟨G0, L, a, d, r, l, e1, e2, e3, e4, e5, e6, e7, trivial, e9⟩
    | 13, _, _ =>
      refine ⟨g13, q, h37.kept (PySem.W.mg_of X G m13) (by decide) fun vs H Q E z => ?_⟩
      obtain ⟨G0, L, a, d, r, l, e1, e2, e3, e4, e5, e6, e7, hp, e9⟩ := z
      exact ⟨G0, L, a, d, r, l, e1, e2, e3, e4, e5, e6, e7, trivial, e9⟩
    | 14, _, _ =>
      refine ⟨g14, q, h38.kept (PySem.W.mg_of X G m14) (by decide) fun vs H Q E z => ?_⟩
      obtain ⟨G0, L, a, d, r, l, e1, e2, e3, e4, e5, e6, e7, hp, e9⟩ := z
      exact ⟨G0, L, a, d, r, l, e1, e2, e3, e4, e5, e6, e7, trivial, e9⟩
    | 15, _, _ =>
      refine ⟨g15, q, h39.kept (PySem.W.mg_of X G m15) (by decide) fun vs H Q E z => ?_⟩
      obtain ⟨G0, L, a, d, r, l, e1, e2, e3, e4, e5, e6, e7, hp, e9⟩ := z
      exact ⟨G0, L, a, d, r, l, e1, e2, e3, e4, e5, e6, e7, trivial, e9⟩
    | 16, _, _ =>
      refine ⟨g16, q, h40.kept (PySem.W.mg_of X G m16) (by decide) fun vs H Q E z => ?_⟩
      obtain ⟨G0, L, a, d, r, l, e1, e2, e3, e4, e5, e6, e7, hp, e9⟩ := z
      exact ⟨G0, L, a, d, r, l, e1, e2, e3, e4, e5, e6, e7, trivial, e9⟩
    | 17, _, _ =>
      refine ⟨g17, q, h41.kept (PySem.W.mg_of X G m17) (by decide) fun vs H Q E z => ?_⟩
      obtain ⟨G0, L, a, d, r, l, e1, e2, e3, e4, e5, e6, e7, hp, e9⟩ := z
      exact ⟨G0, L, a, d, r, l, e1, e2, e3, e4, e5, e6, e7, trivial, e9⟩
    | 18, _, _ =>
      refine ⟨g18, q, h42.kept (PySem.W.mg_of X G m18) (by decide) fun vs H Q E z => ?_⟩
      obtain ⟨G0, L, a, d, r, l, e1, e2, e3, e4, e5, e6, e7, hp, e9⟩ := z
      exact ⟨G0, L, a, d, r, l, e1, e2, e3, e4, e5, e6, e7, trivial, e9⟩
    | c + 19, _, h => exact absurd h (by omega)
  have hA := ok_answer T N d43 hB hC1 TC
  exact ok_ans T F3 h45 hA ⟨mk, a1, i1, kc⟩ (ok_init T F1) b1 (PySem.W.mg_of X G aC)
end Tw

set_option maxRecDepth 100000
set_option maxHeartbeats 4000000
open PySem PySem.W PyProof.Rows
set_option maxRecDepth 100000 in
set_option maxHeartbeats 0 in
theorem PySem.Challenge.cw_twowants_s01_answers_holds : PySem.Challenge.rw_twowants_s01_answers.Holds := by
  w_on; k_headS; (case hw => exact ⟨[.list []], by decide +kernel, by decide +kernel⟩)
  k_fillS
  refine L2.walk_specK (r := PySem.Challenge.rw_twowants_s01_answers) (k := 11) (CX := L2.CX0) (ps := ["calls"]) (sp := Tw.spAns 18) (by decide +kernel) rfl rfl ⟨rfl, by decide, by decide⟩ (fun w h Y => PySem.W.kIn_of Y) ?F ?S (fun _ _ _ _ z => z)
  case F =>
    intro w mg fa h Y KX G hmg
    refine' Tw.all_mk KX G hmg ?d0 ?d1 ?d2 ?d3 ?d4 ?d5 ?d6 ?d7 ?d8 ?d9 ?d10 ?d11 ?d12 ?d13 ?d14 ?d15 ?d16 ?d17 ?d18 ?d19 ?d20 ?d21 ?d22 ?d23 ?d24 ?d25 ?d26 ?d27 ?d28 ?d29 ?d30 ?d31 ?d32 ?d33 ?d34 ?d35 ?d36 ?d37 ?d38 ?d39 ?d40 ?d41 ?d42 ?d43 ?d44 ?d45 ?aC ?a1 ?i1 ?l1 ?c1 ?k1 ?a2 ?i2 ?l2 ?c2 ?k2 ?a3 ?l3 ?c3 ?k3 ?pg ?hd ?po ?sa ?mk ?kc ?n0 ?n1 ?n2 ?n3 ?n4 ?n5 ?n6 ?n7 ?n8 ?b0 ?b1 ?b2 ?b3 ?b4 ?b5 ?b6 ?b7 ?b8 ?q0 ?q1 ?q2 ?q3 ?q4 ?m1 ?m2 ?m3 ?m4 ?m5 ?m6 ?m7 ?m8 ?m9 ?m10 ?m11 ?m12 ?m13 ?m14 ?m15 ?m16 ?m17 ?m18 ?eP ?eC ?eL
    case d0 =>
      refine' Tw.dfn_mk KX G ?a ?l ?c ?k
      (case a => k_is); (case l => k_is); (case c => k_is); (case k => k_is)
    case d1 =>
      refine' Tw.dfn_mk KX G ?a ?l ?c ?k
      (case a => k_is); (case l => k_is); (case c => k_is); (case k => k_is)
    case d2 =>
      refine' Tw.dfn_mk KX G ?a ?l ?c ?k
      (case a => k_is); (case l => k_is); (case c => k_is); (case k => k_is)
    case d3 =>
      refine' Tw.dfn_mk KX G ?a ?l ?c ?k
      (case a => k_is); (case l => k_is); (case c => k_is); (case k => k_is)
    case d4 =>
      refine' Tw.dfn_mk KX G ?a ?l ?c ?k
      (case a => k_is); (case l => k_is); (case c => k_is); (case k => k_is)
    case d5 =>
      refine' Tw.dfn_mk KX G ?a ?l ?c ?k
      (case a => k_is); (case l => k_is); (case c => k_is); (case k => k_is)
    case d6 =>
      refine' Tw.dfn_mk KX G ?a ?l ?c ?k
      (case a => k_is); (case l => k_is); (case c => k_is); (case k => k_is)
    case d7 =>
      refine' Tw.dfn_mk KX G ?a ?l ?c ?k
      (case a => k_is); (case l => k_is); (case c => k_is); (case k => k_is)
    case d8 =>
      refine' Tw.dfn_mk KX G ?a ?l ?c ?k
      (case a => k_is); (case l => k_is); (case c => k_is); (case k => k_is)
    case d9 =>
      refine' Tw.dfn_mk KX G ?a ?l ?c ?k
      (case a => k_is); (case l => k_is); (case c => k_is); (case k => k_is)
    case d10 =>
      refine' Tw.dfn_mk KX G ?a ?l ?c ?k
      (case a => k_is); (case l => k_is); (case c => k_is); (case k => k_is)
    case d11 =>
      refine' Tw.dfn_mk KX G ?a ?l ?c ?k
      (case a => k_is); (case l => k_is); (case c => k_is); (case k => k_is)
    case d12 =>
      refine' Tw.dfn_mk KX G ?a ?l ?c ?k
      (case a => k_is); (case l => k_is); (case c => k_is); (case k => k_is)
    case d13 =>
      refine' Tw.dfn_mk KX G ?a ?l ?c ?k
      (case a => k_is); (case l => k_is); (case c => k_is); (case k => k_is)
    case d14 =>
      refine' Tw.dfn_mk KX G ?a ?l ?c ?k
      (case a => k_is); (case l => k_is); (case c => k_is); (case k => k_is)
    case d15 =>
      refine' Tw.dfn_mk KX G ?a ?l ?c ?k
      (case a => k_is); (case l => k_is); (case c => k_is); (case k => k_is)
    case d16 =>
      refine' Tw.dfn_mk KX G ?a ?l ?c ?k
      (case a => k_is); (case l => k_is); (case c => k_is); (case k => k_is)
    case d17 =>
      refine' Tw.dfn_mk KX G ?a ?l ?c ?k
      (case a => k_is); (case l => k_is); (case c => k_is); (case k => k_is)
    case d18 =>
      refine' Tw.dfn_mk KX G ?a ?l ?c ?k
      (case a => k_is); (case l => k_is); (case c => k_is); (case k => k_is)
    case d19 =>
      refine' Tw.dfn_mk KX G ?a ?l ?c ?k
      (case a => k_is); (case l => k_is); (case c => k_is); (case k => k_is)
    case d20 =>
      refine' Tw.dfn_mk KX G ?a ?l ?c ?k
      (case a => k_is); (case l => k_is); (case c => k_is); (case k => k_is)
    case d21 =>
      refine' Tw.dfn_mk KX G ?a ?l ?c ?k
      (case a => k_is); (case l => k_is); (case c => k_is); (case k => k_is)
    case d22 =>
      refine' Tw.dfn_mk KX G ?a ?l ?c ?k
      (case a => k_is); (case l => k_is); (case c => k_is); (case k => k_is)
    case d23 =>
      refine' Tw.dfn_mk KX G ?a ?l ?c ?k
      (case a => k_is); (case l => k_is); (case c => k_is); (case k => k_is)
    case d24 =>
      refine' Tw.dfn_mk KX G ?a ?l ?c ?k
      (case a => k_is); (case l => k_is); (case c => k_is); (case k => k_is)
    case d25 =>
      refine' Tw.dfn_mk KX G ?a ?l ?c ?k
      (case a => k_is); (case l => k_is); (case c => k_is); (case k => k_is)
    case d26 =>
      refine' Tw.dfn_mk KX G ?a ?l ?c ?k
      (case a => k_is); (case l => k_is); (case c => k_is); (case k => k_is)
    case d27 =>
      refine' Tw.dfn_mk KX G ?a ?l ?c ?k
      (case a => k_is); (case l => k_is); (case c => k_is); (case k => k_is)
    case d28 =>
      refine' Tw.dfn_mk KX G ?a ?l ?c ?k
      (case a => k_is); (case l => k_is); (case c => k_is); (case k => k_is)
    case d29 =>
      refine' Tw.dfn_mk KX G ?a ?l ?c ?k
      (case a => k_is); (case l => k_is); (case c => k_is); (case k => k_is)
    case d30 =>
      refine' Tw.dfn_mk KX G ?a ?l ?c ?k
      (case a => k_is); (case l => k_is); (case c => k_is); (case k => k_is)
    case d31 =>
      refine' Tw.dfn_mk KX G ?a ?l ?c ?k
      (case a => k_is); (case l => k_is); (case c => k_is); (case k => k_is)
    case d32 =>
      refine' Tw.dfn_mk KX G ?a ?l ?c ?k
      (case a => k_is); (case l => k_is); (case c => k_is); (case k => k_is)
    case d33 =>
      refine' Tw.dfn_mk KX G ?a ?l ?c ?k
      (case a => k_is); (case l => k_is); (case c => k_is); (case k => k_is)
    case d34 =>
      refine' Tw.dfn_mk KX G ?a ?l ?c ?k
      (case a => k_is); (case l => k_is); (case c => k_is); (case k => k_is)
    case d35 =>
      refine' Tw.dfn_mk KX G ?a ?l ?c ?k
      (case a => k_is); (case l => k_is); (case c => k_is); (case k => k_is)
    case d36 =>
      refine' Tw.dfn_mk KX G ?a ?l ?c ?k
      (case a => k_is); (case l => k_is); (case c => k_is); (case k => k_is)
    case d37 =>
      refine' Tw.dfn_mk KX G ?a ?l ?c ?k
      (case a => k_is); (case l => k_is); (case c => k_is); (case k => k_is)
    case d38 =>
      refine' Tw.dfn_mk KX G ?a ?l ?c ?k
      (case a => k_is); (case l => k_is); (case c => k_is); (case k => k_is)
    case d39 =>
      refine' Tw.dfn_mk KX G ?a ?l ?c ?k
      (case a => k_is); (case l => k_is); (case c => k_is); (case k => k_is)
    case d40 =>
      refine' Tw.dfn_mk KX G ?a ?l ?c ?k
      (case a => k_is); (case l => k_is); (case c => k_is); (case k => k_is)
    case d41 =>
      refine' Tw.dfn_mk KX G ?a ?l ?c ?k
      (case a => k_is); (case l => k_is); (case c => k_is); (case k => k_is)
    case d42 =>
      refine' Tw.dfn_mk KX G ?a ?l ?c ?k
      (case a => k_is); (case l => k_is); (case c => k_is); (case k => k_is)
    case d43 =>
      refine' Tw.dfn_mk KX G ?a ?l ?c ?k
      (case a => k_is); (case l => k_is); (case c => k_is); (case k => k_is)
    case d44 =>
      refine' Tw.dfn_mk KX G ?a ?l ?c ?k
      (case a => k_is); (case l => k_is); (case c => k_is); (case k => k_is)
    case d45 =>
      refine' Tw.dfn_mk KX G ?a ?l ?c ?k
      (case a => k_is); (case l => k_is); (case c => k_is); (case k => k_is)
    (case aC => k_is); (case a1 => k_is); (case i1 => k_is); (case l1 => k_is); (case c1 => k_is); (case k1 => k_is)
    (case a2 => k_is); (case i2 => k_is); (case l2 => k_is); (case c2 => k_is); (case k2 => k_is)
    (case a3 => k_is); (case l3 => k_is); (case c3 => k_is); (case k3 => k_is)
    (case pg => k_is); (case hd => k_is); (case po => k_is); (case sa => k_is); (case mk => k_is); (case kc => k_is)
    (case n0 => k_is); (case n1 => k_is); (case n2 => k_is); (case n3 => k_is); (case n4 => k_is); (case n5 => k_is); (case n6 => k_is); (case n7 => k_is); (case n8 => k_is)
    (case b0 => k_is); (case b1 => k_is); (case b2 => k_is); (case b3 => k_is); (case b4 => k_is); (case b5 => k_is); (case b6 => k_is); (case b7 => k_is); (case b8 => k_is)
    case q0 =>
      refine' Tw.cst_mk KX G ?a
      (case a => k_is)
    case q1 =>
      refine' Tw.cst_mk KX G ?a
      (case a => k_is)
    case q2 =>
      refine' Tw.cst_mk KX G ?a
      (case a => k_is)
    case q3 =>
      refine' Tw.cst_mk KX G ?a
      (case a => k_is)
    case q4 =>
      refine' Tw.cst_mk KX G ?a
      (case a => k_is)
    (case m1 => k_is); (case m2 => k_is); (case m3 => k_is); (case m4 => k_is); (case m5 => k_is); (case m6 => k_is); (case m7 => k_is); (case m8 => k_is); (case m9 => k_is); (case m10 => k_is); (case m11 => k_is); (case m12 => k_is); (case m13 => k_is); (case m14 => k_is); (case m15 => k_is); (case m16 => k_is); (case m17 => k_is); (case m18 => k_is)
    case eP =>
      refine' Tw.dct_mk KX G ?a ?l ?s ?i ?m
      (case a => k_is); (case l => k_is)
      (case s => decide)
      case i => exact ⟨⟨_, _, rfl, rfl⟩, ⟨_, _, rfl, rfl⟩, trivial⟩
      case m => rfl
    case eC =>
      refine' Tw.dct_mk KX G ?a ?l ?s ?i ?m
      (case a => k_is); (case l => k_is)
      (case s => decide)
      case i => exact ⟨⟨_, _, rfl, rfl⟩, ⟨_, _, rfl, rfl⟩, ⟨_, _, rfl, rfl⟩, ⟨_, _, rfl, rfl⟩, ⟨_, _, rfl, rfl⟩, ⟨_, _, rfl, rfl⟩, ⟨_, _, rfl, rfl⟩, ⟨_, _, rfl, rfl⟩, ⟨_, _, rfl, rfl⟩, ⟨_, _, rfl, rfl⟩, ⟨_, _, rfl, rfl⟩, ⟨_, _, rfl, rfl⟩, ⟨_, _, rfl, rfl⟩, ⟨_, _, rfl, rfl⟩, ⟨_, _, rfl, rfl⟩, ⟨_, _, rfl, rfl⟩, ⟨_, _, rfl, rfl⟩, ⟨_, _, rfl, rfl⟩, trivial⟩
      case m => rfl
    case eL =>
      refine' Tw.tup_mk KX G ?a ?l ?c
      (case a => k_is); (case l => k_is)
      case c => exact ⟨rfl, rfl, (by show 4 ≤ sizeLine; decide), .cons ⟨_, rfl⟩ (.cons ⟨_, rfl⟩ (.cons ⟨_, rfl⟩ (.cons ⟨_, rfl⟩ .nil)))⟩
  case S =>
    intro K H xs a hO hwi hask hx
    cases hx with
    | cons h1 h2 =>
      cases h2
      cases h1 with
      | lst hs ha =>
        have e := L2.ints_dw a.1 _ ha
        subst e
        obtain ⟨cs, pt, h40, ea, hl⟩ := Tw.due (l := a.1) hask
        refine ⟨_, a.1, cs, rfl, hs, pt, h40, fun q hq => (pt.mem q hq).1, hl, fun H' p hp => ?_⟩
        rw [← ea] at hp
        exact .lst (L2.SqL.of hp) (L2.dw_ints _)

