import PyProof.Rows.All
import Wide.All
import OpenK.AllK
import Wide.FinOn
import HandS.ForSpec
import HandS.Dict
import HandS.WordsDict
import HandS.Comp
import HandS.Evl
import HandS.Iter
import HandS.Lambda
import KE.DataMinKey
import Open.SpecLaws
import KE.OsGo
import HandS.SortKw
import HandS.Nested
import HandS.Text
import PySem.Challenge.RW_lentplaces_s01_answers
set_option Elab.async false
set_option linter.all false
set_option maxRecDepth 100000
set_option maxHeartbeats 4000000
namespace Lp
open PySem PySem.Spec PyProof.Rows L2
/-! ### names of the module -/
section
variable {X : Cx} {x : Str} {pos : Pos}
theorem pe_gi {n : Int} (hg : Gl X x) (hm : ∃ t, X.mg x = some (.int n t)) (hdb : (x == ("__debug__" : Str)) = false := by decide) : PE X (.Name x pos) (tC (.int n)) := by
  obtain ⟨t, h⟩ := hm
  exact pe_glob hg h ⟨t, rfl⟩ hdb
theorem pe_gr {r : Addr} (hg : Gl X x) (hm : X.mg x = some (.ref r)) (hdb : (x == ("__debug__" : Str)) = false := by decide) : PE X (.Name x pos) (tC (.ref r)) :=
  pe_glob hg hm rfl hdb
end
/-! ### any(..) of a list of numbers -/
def rAnyI (K : PySem.W.Frag) : List V → Hp → VK → Prop := fun vs H Q => ∃ (a : Addr) (ns : List Int), vs = [V.ref a] ∧ SqL K H a (ns.map V.int) ∧ Q (.bl (ns.any fun n => n != 0)) H
theorem any_places : ∀ ns : List Int, ((List.range ns.length).any fun i => ns.getD i 0 != 0) = ns.any fun n => n != 0
  | [] => rfl
  | n :: ns => by
    rw [List.length_cons, List.range_succ_eq_map, List.any_cons, List.any_map, List.any_cons, ← any_places ns]
    rfl
theorem truth_ints {prog : Program} {w : World} {A : Around} {ns : List Int} {its : List Value} (hi : Vals (ns.map V.int) its) :
    TruthOf prog w A (fun i v => its.toArray[i]? = some v) (fun i => ns.getD i 0 != 0) := fun i v s Q E hv hq => by
  have hv' : its[i]? = some v := by simpa using hv
  obtain ⟨n, hn⟩ : ∃ n, ns[i]? = some n := by
    cases q : ns[i]? with
    | some n => exact ⟨n, rfl⟩
    | none =>
      have z := Vals.none_of (i := i) hi (by rw [List.getElem?_map, q]; rfl)
      rw [hv'] at z
      cases z
  obtain ⟨u, hu, r⟩ := Vals.get (i := i) hi (by rw [List.getElem?_map, hn]; rfl)
  rw [hv'] at hu
  cases hu
  obtain ⟨t, rfl⟩ := r
  have hq' : Q (ns.getD i 0 != 0) s := hq
  rw [List.getD_eq_getElem?_getD, hn] at hq'
  exact PyProof.Rows.truthy_int hq'
section
variable {X : Cx}
theorem cr_anyI (hc : X.calm = true) : CallR X (.builtin "any") (rAnyI X.K) := by
  intro pins s σ H vs us Q I r ⟨b, ns, hvs, hs, q⟩
  subst hvs
  obtain ⟨cells, rv, hl, _⟩ := I.list hs
  rw [Vals.ref1 r]
  refine call_any_walk (iter_any hl.isList fun t et st hne => ?_)
  subst et
  refine ⟨_, _, _, _, _, _, _, rfl, Walks.list (A := X.A.in1) (I.ok.hd hc) _ b hne cells.toArray, st, truth_ints rv, fun g tk hk => ?_⟩
  refine ⟨.bl _, H, I.kept fun c o eo => hk c o (fun hm => ?_) (Heap.get?_push_of_some _ eo), ?_, q⟩
  · cases hm with
    | head => exact absurd (Heap.lt_size eo) (Nat.lt_irrefl _)
    | tail _ hm => cases hm
  · have hz : cells.length = ns.length := by rw [← rv.length, List.length_map]
    show Value.bool _ = Value.bool _
    rw [← any_places, List.size_toArray, hz]
end
/-! ### a dict of the module whose keys are numbers -/
def KDI (K : PySem.W.Frag) (P : Program) (w : World) (d : Addr) (kvs : List (Key × V)) : Prop :=
  ∃ (es : Array DictEntry) (n : Nat) (vs : List (Key × Value)), K.lookup d = some ⟨.type "dict", none, .dict es n, #[]⟩ ∧ (d == sysModules) = false ∧ KV kvs vs ∧ KeysOf (mixKind P w) es ∧ Pairs (mixKind P w) es.toList vs ∧ (vs.map (·.1)).Nodup
theorem KDI.at {K : PySem.W.Frag} {P : Program} {w : World} {d : Addr} {kvs : List (Key × V)} {h : Heap} (D : KDI K P w d kvs) (X : K.In h) :
    ∃ (es : Array DictEntry) (n : Nat) (vs : List (Key × Value)), h.get? d = some ⟨.type "dict", none, .dict es n, #[]⟩ ∧ (d == sysModules) = false ∧ es.size = kvs.length ∧ KV kvs vs ∧ h.DictAt (mixKind P w) d vs n := by
  obtain ⟨es, n, vs, hl, hs, kv, hk, hp, nd⟩ := D
  have hg := X _ _ hl
  have z1 := hp.length
  have z2 : kvs.length = vs.length := Paired.length kv
  rw [Array.length_toList] at z1
  exact ⟨es, n, vs, hg, hs, by omega, kv, ⟨_, es, hg, ⟨rfl, rfl, rfl⟩, rfl, hk, hp, nd⟩⟩
def rIxKI (K : PySem.W.Frag) (P : Program) (w : World) : R2 := fun x y H Q => ∃ p k v kvs, x = .ref p ∧ y = .int k ∧ KDI K P w p kvs ∧ valV kvs (Sum.inl k) = some v ∧ Q v H
def ItkW (kvs : List (Key × V)) : It :=
  ⟨fun i _ => i < kvs.length, fun i H x H' => H' = H ∧ ∃ k v, kvs[i]? = some (k, v) ∧ x = kV k, fun i _ => kvs.length ≤ i⟩
def iKeysW (K : PySem.W.Frag) (P : Program) (w : World) (td : TE) : TI := fun σ H R => td σ H fun x H1 => ∃ d kvs, x = .ref d ∧ KDI K P w d kvs ∧ R (ItkW kvs) H1
section
variable {X : Cx}
theorem ix_kdi : IxR X (rIxKI X.K X.prog X.w) := by
  intro value slice pins s σ H x y v u Q I rx ry ⟨p, k, v', kvs, ex, ey, D, hv, q⟩ hs
  subst ex ey
  obtain rfl : v = Value.ref p := rx
  obtain ⟨es, n, vs, _, _, _, kv, dd⟩ := D.at I.kIn
  obtain ⟨r, hr, rr⟩ := RelO.some_of (v := v') (o := valueAt vs (Sum.inl k)) (by rw [← hv]; exact kv.val _)
  have dm := dd.dictOf.mapOf
  exact tail_any dm.typeIs slot_dict_getitem.lookup (wpAny_getItem_of (kV_is (k := Sum.inl k) ry) dm hr ⟨v', H, I.tok _, rr, q⟩) hs
theorem turn_keysW {P : Program} {w : World} {K : PySem.W.Frag} {tg : Expr} {d : Addr} {kvs : List (Key × V)} {n : Nat} (it : Addr) (D : KDI K P w d kvs)
    (hn : ∀ es m, K.lookup d = some ⟨.type "dict", none, .dict es m, #[]⟩ → m = n) : Turn P w K tg (ItkW kvs) [it] it (fun i h => h.IsKeyIter it d i kvs.length n) where
  mem := List.mem_cons_self
  obj := fun i h st b hb => by
    obtain rfl : b = it := List.mem_singleton.mp hb
    obtain ⟨oi, e, _, dd⟩ := st
    exact ⟨oi, e, fun v z => by rw [dd] at z; cases z⟩
  keep := fun i h h' st k => st.at fun oi e => k it List.mem_cons_self oi e
  item := by
    intro X hP hw hK hc i pins s σ H E I hf st hlt
    subst hP hw hK
    obtain ⟨f0, f1, f2, f3, f4, f5⟩ := hf it List.mem_cons_self
    have D' := D
    obtain ⟨es0, n0, _, hl0, _⟩ := D'
    have en := hn _ _ hl0
    subst en
    obtain ⟨es, m, vs, hg, hs, hz, kv, hm⟩ := D.at I.kIn
    have hg0 := I.kIn _ _ hl0
    rw [hg] at hg0
    cases hg0
    obtain ⟨⟨k, v⟩, hkv⟩ : ∃ p, kvs[i]? = some p := ⟨kvs[i], List.getElem?_eq_getElem hlt⟩
    obtain ⟨u, hu, ru⟩ := kv_get kv hkv
    have e2 : kvs.length = vs.length := Paired.length kv
    rw [e2] at st
    refine wpAny_pyNext_dict_item st hm hu fun key g hkey st' sb => ?_
    have J : Inv X pins σ H { s with heap := g } := I.turned (t' := s.toks) (fun b ob hb e => (sb.2 b hb).trans e) f0 f1 f3 f4 f5
    obtain ⟨oi, e, c, dd⟩ := id st'
    refine ⟨key, rfl, go_of (s := { s with heap := g }) e c dd (by decide) ⟨kV k, H, J, relV_key (show keyIs k key = true from hkey), ⟨rfl, k, v, hkv, rfl⟩, ?_, fun b hb => (hf b hb).1⟩⟩
    rw [e2]
    exact st'
  done := by
    intro X hP hw hK hc i pins s σ H E I hf st hge
    subst hP hw hK
    obtain ⟨f0, f1, f2, f3, f4, f5⟩ := hf it List.mem_cons_self
    have D' := D
    obtain ⟨es0, n0, _, hl0, _⟩ := D'
    have en := hn _ _ hl0
    subst en
    obtain ⟨es, m, vs, hg, hs, hz, kv, hm⟩ := D.at I.kIn
    have hg0 := I.kIn _ _ hl0
    rw [hg] at hg0
    cases hg0
    exact next_key_end (I.ok.hd hc) st hg rfl hz hge fun g eb => ⟨rfl, I.turned (t' := s.toks) (fun b ob hb e => eb b ob hb e) f0 f1 f3 f4 f5⟩
  self := fun A i s Q E st h => wpAny_pyIter_keyiter st h
theorem pi_keysW {tg e : Expr} {td : TE} (he : PE X e td) : PI X tg e (iKeysW X.K X.prog X.w td) := by
  constructor
  intro pins s σ H R I h
  refine thn (he.run pins s σ H _ I h) fun u s1 ⟨x, H1, I1, rx, d, kvs, ex, D, q⟩ => ?_
  subst ex
  obtain rfl : u = Value.ref d := rx
  obtain ⟨es, n, vs, hg, hs, hz, kv, hm⟩ := D.at I1.kIn
  have un : ∀ es' m, X.K.lookup d = some ⟨.type "dict", none, .dict es' m, #[]⟩ → m = n := fun es' m hl => by
    have z := I1.kIn _ _ hl
    rw [hg] at z
    cases z
    rfl
  refine iter_keys hs hg ⟨rfl, rfl, rfl⟩ rfl (pi_one (tk := s1.toks) I1 _ (turn_keysW _ D un) ⟨_, Heap.get?_push_size _ rfl, rfl, ?_⟩ q)
  rw [hz] <;> rfl
end
/-- a loop over the keys, by what holds between two turns -/
theorem for_keysW {kvs : List (Key × V)} {g : TG} {tb : TS} {D : Ends} {σ : L2.St} {H : Hp} (Pv : Nat → L2.St → Hp → Prop) (h0 : Pv 0 σ H)
    (hs : ∀ i k v σ H, kvs[i]? = some (k, v) → Pv i σ H → g (kV k) σ H fun σ2 H2 => tb { D with nx := Pv (i + 1), ct := Pv (i + 1), bk := D.nx } σ2 H2) (hd : ∀ σ H, Pv kvs.length σ H → D.nx σ H) :
    ∃ W : Nat → Nat → L2.St → Hp → Prop, (∃ m, W 0 m σ H) ∧ ∀ i m σ H, W i m σ H → ((ItkW kvs).stop i H ∧ D.nx σ H) ∨
      ((ItkW kvs).go i H ∧ ∃ N : L2.St → Hp → Prop, (∀ σ' H', N σ' H' → ∃ m', m' < m ∧ W (i + 1) m' σ' H') ∧ ∀ x H', (ItkW kvs).yld i H x H' → g x σ H' fun σ2 H2 => tb { D with nx := N, ct := N, bk := D.nx } σ2 H2) := by
  refine ⟨fun i m σ H => m = kvs.length - i ∧ i ≤ kvs.length ∧ Pv i σ H, ⟨kvs.length, by simp, Nat.zero_le _, h0⟩, fun i m σ H ⟨em, hi, p⟩ => ?_⟩
  subst em
  by_cases hlt : i < kvs.length
  · refine .inr ⟨hlt, Pv (i + 1), fun σ' H' p' => ⟨kvs.length - (i + 1), by omega, rfl, hlt, p'⟩, fun x H' ⟨e, k, v, hk, ex⟩ => ?_⟩
    subst e ex
    exact hs i k v σ _ hk p
  · obtain rfl : i = kvs.length := by omega
    exact .inl ⟨Nat.le_refl _, hd σ H p⟩
end Lp
namespace Lp
open PySem PySem.Spec PyProof.Rows L2
/-! ### the text by places -/
def top (i : Nat) : Stmt := PySem.Challenge.pw_lentplaces_s01_answers.main.body.getD i (.Pass ⟨0, 0, 0, 0⟩)
abbrev s_pInit : Stmt := inClass (top 5) 0
abbrev s_turn : Stmt := inClass (top 5) 1
abbrev s_freeAt : Stmt := inClass (top 5) 2
abbrev s_ownOf : Stmt := inClass (top 5) 3
abbrev s_ownAmong : Stmt := top 6
abbrev s_oldest : Stmt := top 7
abbrev s_numberOf : Stmt := top 23
abbrev s_addressIn : Stmt := top 24
abbrev s_mInit : Stmt := inClass (top 22) 0
abbrev s_areRight : Stmt := top 27
abbrev s_readOptions : Stmt := top 26
abbrev s_readMessage : Stmt := top 25
abbrev s_addressFor : Stmt := top 42
abbrev s_fourBytes : Stmt := top 41
abbrev s_header : Stmt := top 38
abbrev s_numberOption : Stmt := top 40
abbrev s_optionsOf : Stmt := top 39
abbrev s_portFor : Stmt := top 43
abbrev s_reply : Stmt := top 37
abbrev s_lInit : Stmt := inClass (top 52) 0
abbrev s_tick : Stmt := inClass (top 52) 1
abbrev s_lends : Stmt := inClass (top 58) 1
abbrev s_placeAt : Stmt := inClass (top 52) 4
abbrev s_look : Stmt := inClass (top 52) 2
abbrev s_ownAt : Stmt := inClass (top 52) 5
abbrev s_decline : Stmt := inClass (top 52) 15
abbrev s_choose : Stmt := inClass (top 52) 7
abbrev s_discover : Stmt := inClass (top 52) 6
abbrev s_release : Stmt := inClass (top 52) 16
abbrev s_deny : Stmt := inClass (top 52) 13
abbrev s_lend : Stmt := inClass (top 52) 12
abbrev s_reqAgain : Stmt := inClass (top 52) 11
abbrev s_sharesNet : Stmt := inClass (top 58) 2
abbrev s_reqKnown : Stmt := inClass (top 52) 10
abbrev s_reqOffered : Stmt := inClass (top 52) 9
abbrev s_takeBack : Stmt := inClass (top 52) 14
abbrev s_request : Stmt := inClass (top 52) 8
abbrev s_handle : Stmt := inClass (top 52) 3
abbrev s_nInit : Stmt := inClass (top 58) 0
abbrev s_isMask : Stmt := top 59
abbrev s_isRight : Stmt := inClass (top 58) 3
abbrev s_dInit : Stmt := inClass (top 65) 0
abbrev s_begin : Stmt := inClass (top 65) 2
abbrev s_take : Stmt := inClass (top 65) 3
abbrev s_respond : Stmt := inClass (top 65) 1
abbrev s_answers : Stmt := top 66
theorem sc_pInit : FnScope ["self", "address"] ["self", "address"] (defScope s_pInit) := ⟨rfl, rfl, rfl, by decide +kernel, rfl, by decide +kernel, by decide +kernel⟩
theorem sc_turn : FnScope ["self", "state", "till", "owner"] ["self", "state", "till", "owner"] (defScope s_turn) := ⟨rfl, rfl, rfl, by decide +kernel, rfl, by decide +kernel, by decide +kernel⟩
theorem sc_freeAt : FnScope ["self", "now"] ["self", "now"] (defScope s_freeAt) := ⟨rfl, rfl, rfl, by decide +kernel, rfl, by decide +kernel, by decide +kernel⟩
theorem sc_ownOf : FnScope ["self", "who"] ["self", "who"] (defScope s_ownOf) := ⟨rfl, rfl, rfl, by decide +kernel, rfl, by decide +kernel, by decide +kernel⟩
theorem sc_ownAmong : FnScope ["places", "who", "place"] ["places", "who"] (defScope s_ownAmong) := ⟨rfl, rfl, rfl, by decide +kernel, rfl, by decide +kernel, by decide +kernel⟩
theorem sc_oldest : FnScope ["places", "now", "place", "free"] ["places", "now"] (defScope s_oldest) := ⟨rfl, rfl, rfl, by decide +kernel, rfl, by decide +kernel, by decide +kernel⟩
theorem sc_numberOf : FnScope ["digits", "number", "digit"] ["digits"] (defScope s_numberOf) := ⟨rfl, rfl, rfl, by decide +kernel, rfl, by decide +kernel, by decide +kernel⟩
theorem sc_addressIn : FnScope ["options", "number"] ["options", "number"] (defScope s_addressIn) := ⟨rfl, rfl, rfl, by decide +kernel, rfl, by decide +kernel, by decide +kernel⟩
theorem sc_mInit : FnScope ["self", "packet", "options"] ["self", "packet", "options"] (defScope s_mInit) := ⟨rfl, rfl, rfl, by decide +kernel, rfl, by decide +kernel, by decide +kernel⟩
theorem sc_areRight : FnScope ["options", "number", "bounds"] ["options"] (defScope s_areRight) := ⟨rfl, rfl, rfl, by decide +kernel, rfl, by decide +kernel, by decide +kernel⟩
theorem sc_readOptions : FnScope ["packet", "options", "at", "number", "behind"] ["packet"] (defScope s_readOptions) := ⟨rfl, rfl, rfl, by decide +kernel, rfl, by decide +kernel, by decide +kernel⟩
theorem sc_readMessage : FnScope ["packet", "options"] ["packet"] (defScope s_readMessage) := ⟨rfl, rfl, rfl, by decide +kernel, rfl, by decide +kernel, by decide +kernel⟩
theorem sc_addressFor : FnScope ["message", "kind", "given"] ["message", "kind", "given"] (defScope s_addressFor) := ⟨rfl, rfl, rfl, by decide +kernel, rfl, by decide +kernel, by decide +kernel⟩
theorem sc_fourBytes : FnScope ["number"] ["number"] (defScope s_fourBytes) := ⟨rfl, rfl, rfl, by decide +kernel, rfl, by decide +kernel, by decide +kernel⟩
theorem sc_header : FnScope ["message", "kind", "given", "client", "start", "addresses"] ["message", "kind", "given"] (defScope s_header) := ⟨rfl, rfl, rfl, by decide +kernel, rfl, by decide +kernel, by decide +kernel⟩
theorem sc_numberOption : FnScope ["option", "number"] ["option", "number"] (defScope s_numberOption) := ⟨rfl, rfl, rfl, by decide +kernel, rfl, by decide +kernel, by decide +kernel⟩
theorem sc_optionsOf : FnScope ["net", "message", "kind", "given", "options"] ["net", "message", "kind", "given"] (defScope s_optionsOf) := ⟨rfl, rfl, rfl, by decide +kernel, rfl, by decide +kernel, by decide +kernel⟩
theorem sc_portFor : FnScope ["message"] ["message"] (defScope s_portFor) := ⟨rfl, rfl, rfl, by decide +kernel, rfl, by decide +kernel, by decide +kernel⟩
theorem sc_reply : FnScope ["net", "message", "kind", "given", "packet"] ["net", "message", "kind", "given"] (defScope s_reply) := ⟨rfl, rfl, rfl, by decide +kernel, rfl, by decide +kernel, by decide +kernel⟩
theorem sc_lInit : FnScope ["self", "net", "address"] ["self", "net"] (defScope s_lInit) := ⟨rfl, rfl, rfl, by decide +kernel, rfl, by decide +kernel, by decide +kernel⟩
theorem sc_tick : FnScope ["self", "seconds"] ["self", "seconds"] (defScope s_tick) := ⟨rfl, rfl, rfl, by decide +kernel, rfl, by decide +kernel, by decide +kernel⟩
theorem sc_lends : FnScope ["self", "address"] ["self", "address"] (defScope s_lends) := ⟨rfl, rfl, rfl, by decide +kernel, rfl, by decide +kernel, by decide +kernel⟩
theorem sc_placeAt : FnScope ["self", "address"] ["self", "address"] (defScope s_placeAt) := ⟨rfl, rfl, rfl, by decide +kernel, rfl, by decide +kernel, by decide +kernel⟩
theorem sc_look : FnScope ["self", "address", "place", "seconds", "state"] ["self", "address"] (defScope s_look) := ⟨rfl, rfl, rfl, by decide +kernel, rfl, by decide +kernel, by decide +kernel⟩
theorem sc_ownAt : FnScope ["self", "address", "who", "place"] ["self", "address", "who"] (defScope s_ownAt) := ⟨rfl, rfl, rfl, by decide +kernel, rfl, by decide +kernel, by decide +kernel⟩
theorem sc_decline : FnScope ["self", "message", "place"] ["self", "message"] (defScope s_decline) := ⟨rfl, rfl, rfl, by decide +kernel, rfl, by decide +kernel, by decide +kernel⟩
theorem sc_choose : FnScope ["self", "message", "own", "wanted"] ["self", "message"] (defScope s_choose) := ⟨rfl, rfl, rfl, by decide +kernel, rfl, by decide +kernel, by decide +kernel⟩
theorem sc_discover : FnScope ["self", "message", "place"] ["self", "message"] (defScope s_discover) := ⟨rfl, rfl, rfl, by decide +kernel, rfl, by decide +kernel, by decide +kernel⟩
theorem sc_release : FnScope ["self", "message", "place"] ["self", "message"] (defScope s_release) := ⟨rfl, rfl, rfl, by decide +kernel, rfl, by decide +kernel, by decide +kernel⟩
theorem sc_deny : FnScope ["self", "message"] ["self", "message"] (defScope s_deny) := ⟨rfl, rfl, rfl, by decide +kernel, rfl, by decide +kernel, by decide +kernel⟩
theorem sc_lend : FnScope ["self", "place", "message"] ["self", "place", "message"] (defScope s_lend) := ⟨rfl, rfl, rfl, by decide +kernel, rfl, by decide +kernel, by decide +kernel⟩
theorem sc_reqAgain : FnScope ["self", "message", "place"] ["self", "message"] (defScope s_reqAgain) := ⟨rfl, rfl, rfl, by decide +kernel, rfl, by decide +kernel, by decide +kernel⟩
theorem sc_sharesNet : FnScope ["self", "address"] ["self", "address"] (defScope s_sharesNet) := ⟨rfl, rfl, rfl, by decide +kernel, rfl, by decide +kernel, by decide +kernel⟩
theorem sc_reqKnown : FnScope ["self", "message", "place"] ["self", "message"] (defScope s_reqKnown) := ⟨rfl, rfl, rfl, by decide +kernel, rfl, by decide +kernel, by decide +kernel⟩
theorem sc_reqOffered : FnScope ["self", "message", "place"] ["self", "message"] (defScope s_reqOffered) := ⟨rfl, rfl, rfl, by decide +kernel, rfl, by decide +kernel, by decide +kernel⟩
theorem sc_takeBack : FnScope ["self", "who", "place"] ["self", "who"] (defScope s_takeBack) := ⟨rfl, rfl, rfl, by decide +kernel, rfl, by decide +kernel, by decide +kernel⟩
theorem sc_request : FnScope ["self", "message"] ["self", "message"] (defScope s_request) := ⟨rfl, rfl, rfl, by decide +kernel, rfl, by decide +kernel, by decide +kernel⟩
theorem sc_handle : FnScope ["self", "message"] ["self", "message"] (defScope s_handle) := ⟨rfl, rfl, rfl, by decide +kernel, rfl, by decide +kernel, by decide +kernel⟩
theorem sc_nInit : FnScope ["self", "numbers"] ["self", "numbers"] (defScope s_nInit) := ⟨rfl, rfl, rfl, by decide +kernel, rfl, by decide +kernel, by decide +kernel⟩
theorem sc_isMask : FnScope ["mask", "turned"] ["mask"] (defScope s_isMask) := ⟨rfl, rfl, rfl, by decide +kernel, rfl, by decide +kernel, by decide +kernel⟩
theorem sc_isRight : FnScope ["self"] ["self"] (defScope s_isRight) := ⟨rfl, rfl, rfl, by decide +kernel, rfl, by decide +kernel, by decide +kernel⟩
theorem sc_dInit : FnScope ["self"] ["self"] (defScope s_dInit) := ⟨rfl, rfl, rfl, by decide +kernel, rfl, by decide +kernel, by decide +kernel⟩
theorem sc_begin : FnScope ["self", "numbers", "net"] ["self", "numbers"] (defScope s_begin) := ⟨rfl, rfl, rfl, by decide +kernel, rfl, by decide +kernel, by decide +kernel⟩
theorem sc_take : FnScope ["self", "packet", "message"] ["self", "packet"] (defScope s_take) := ⟨rfl, rfl, rfl, by decide +kernel, rfl, by decide +kernel, by decide +kernel⟩
theorem sc_respond : FnScope ["self", "call", "given"] ["self", "call", "given"] (defScope s_respond) := ⟨rfl, rfl, rfl, by decide +kernel, rfl, by decide +kernel, by decide +kernel⟩
theorem sc_answers : FnScope ["calls", "desk", "answered", "at", "call", "start", "behind", "answer"] ["calls"] (defScope s_answers) := ⟨rfl, rfl, rfl, by decide +kernel, rfl, by decide +kernel, by decide +kernel⟩
/-! ### where everything stands -/
structure Ad where
  cPlace : Addr
  cMessage : Addr
  cLender : Addr
  cNet : Addr
  cDesk : Addr
  f_pInit : Addr
  d_pInit : FuncData
  f_turn : Addr
  d_turn : FuncData
  f_freeAt : Addr
  d_freeAt : FuncData
  f_ownOf : Addr
  d_ownOf : FuncData
  f_ownAmong : Addr
  d_ownAmong : FuncData
  f_oldest : Addr
  d_oldest : FuncData
  f_numberOf : Addr
  d_numberOf : FuncData
  f_addressIn : Addr
  d_addressIn : FuncData
  f_mInit : Addr
  d_mInit : FuncData
  f_areRight : Addr
  d_areRight : FuncData
  f_readOptions : Addr
  d_readOptions : FuncData
  f_readMessage : Addr
  d_readMessage : FuncData
  f_addressFor : Addr
  d_addressFor : FuncData
  f_fourBytes : Addr
  d_fourBytes : FuncData
  f_header : Addr
  d_header : FuncData
  f_numberOption : Addr
  d_numberOption : FuncData
  f_optionsOf : Addr
  d_optionsOf : FuncData
  f_portFor : Addr
  d_portFor : FuncData
  f_reply : Addr
  d_reply : FuncData
  f_lInit : Addr
  d_lInit : FuncData
  f_tick : Addr
  d_tick : FuncData
  f_lends : Addr
  d_lends : FuncData
  f_placeAt : Addr
  d_placeAt : FuncData
  f_look : Addr
  d_look : FuncData
  f_ownAt : Addr
  d_ownAt : FuncData
  f_decline : Addr
  d_decline : FuncData
  f_choose : Addr
  d_choose : FuncData
  f_discover : Addr
  d_discover : FuncData
  f_release : Addr
  d_release : FuncData
  f_deny : Addr
  d_deny : FuncData
  f_lend : Addr
  d_lend : FuncData
  f_reqAgain : Addr
  d_reqAgain : FuncData
  f_sharesNet : Addr
  d_sharesNet : FuncData
  f_reqKnown : Addr
  d_reqKnown : FuncData
  f_reqOffered : Addr
  d_reqOffered : FuncData
  f_takeBack : Addr
  d_takeBack : FuncData
  f_request : Addr
  d_request : FuncData
  f_handle : Addr
  d_handle : FuncData
  f_nInit : Addr
  d_nInit : FuncData
  f_isMask : Addr
  d_isMask : FuncData
  f_isRight : Addr
  d_isRight : FuncData
  f_dInit : Addr
  d_dInit : FuncData
  f_begin : Addr
  d_begin : FuncData
  f_take : Addr
  d_take : FuncData
  f_respond : Addr
  d_respond : FuncData
  f_answers : Addr
  d_answers : FuncData
  kCOOKIE : Addr
  kLENGTHS : Addr
  cOld : Addr
  pTab : Addr
/-! ### short names of readings -/
abbrev rAdd : R2 := rI0 fun i j => .int (i + j)
abbrev rSub : R2 := rI0 fun i j => .int (i - j)
abbrev rMul : R2 := rI CMul fun i j => .int (i * j)
abbrev rFdiv : R2 := rI CDiv fun i j => .int (i / j)
abbrev rShr : R2 := rI (fun _ j => 0 ≤ j) fun i j => .int (i / 2 ^ j.toNat)
abbrev rAnd : R2 := rI0 fun i j => .int (Builtin.bitAnd i j)
abbrev rLt : R2 := rI0 fun i j => .bl (decide (i < j))
abbrev rLe : R2 := rI0 fun i j => .bl (decide (i ≤ j))
abbrev rGt : R2 := rI0 fun i j => .bl (decide (j < i))
abbrev rGe : R2 := rI0 fun i j => .bl (decide (j ≤ i))
abbrev rIsN : R2 := fun x y H Q => y = .non ∧ Q (.bl (decide (x = .non))) H
abbrev rNotN : R2 := fun x y H Q => y = .non ∧ Q (.bl (!decide (x = .non))) H
abbrev rNeg : V → Hp → VK → Prop := rU fun i => .int (-i)
/-! ### fields -/
theorem lk_h {k : Str} {v : V} {r : List (Str × V)} : List.lookup k ((k, v) :: r) = some v := by
  simp only [List.lookup, beq_self_eq_true]
theorem lk_n {k g : Str} {v : V} {r : List (Str × V)} (h : (k == g) = false) : List.lookup k ((g, v) :: r) = List.lookup k r := by
  simp only [List.lookup, h]
theorem pf_h {f : Str} {v x : V} {r : List (Str × V)} : putF f v ((f, x) :: r) = (f, v) :: r := if_pos rfl
theorem pf_n {f g : Str} {v x : V} {r : List (Str × V)} (h : ¬ g = f) : putF f v ((g, x) :: r) = (g, x) :: putF f v r := if_neg h
def placeF (v0 v1 v2 v3 : V) : List (Str × V) := [("address", v0), ("state", v1), ("till", v2), ("owner", v3)]
theorem placeF_address {v0 v1 v2 v3 : V} : (placeF v0 v1 v2 v3).lookup ("address" : Str) = some v0 := lk_h
theorem placeF_state {v0 v1 v2 v3 : V} : (placeF v0 v1 v2 v3).lookup ("state" : Str) = some v1 := (lk_n (by decide +kernel)).trans (lk_h)
theorem placeF_till {v0 v1 v2 v3 : V} : (placeF v0 v1 v2 v3).lookup ("till" : Str) = some v2 := (lk_n (by decide +kernel)).trans ((lk_n (by decide +kernel)).trans (lk_h))
theorem placeF_owner {v0 v1 v2 v3 : V} : (placeF v0 v1 v2 v3).lookup ("owner" : Str) = some v3 := (lk_n (by decide +kernel)).trans ((lk_n (by decide +kernel)).trans ((lk_n (by decide +kernel)).trans (lk_h)))
theorem placeF_m_turn {v0 v1 v2 v3 : V} : (placeF v0 v1 v2 v3).lookup ("turn" : Str) = none := (lk_n (by decide +kernel)).trans ((lk_n (by decide +kernel)).trans ((lk_n (by decide +kernel)).trans ((lk_n (by decide +kernel)).trans (rfl))))
theorem placeF_m_is_free_at {v0 v1 v2 v3 : V} : (placeF v0 v1 v2 v3).lookup ("is_free_at" : Str) = none := (lk_n (by decide +kernel)).trans ((lk_n (by decide +kernel)).trans ((lk_n (by decide +kernel)).trans ((lk_n (by decide +kernel)).trans (rfl))))
theorem placeF_m_is_own_of {v0 v1 v2 v3 : V} : (placeF v0 v1 v2 v3).lookup ("is_own_of" : Str) = none := (lk_n (by decide +kernel)).trans ((lk_n (by decide +kernel)).trans ((lk_n (by decide +kernel)).trans ((lk_n (by decide +kernel)).trans (rfl))))
theorem placeF_b0 {v0 : V} : putF "address" v0 ([] : List (Str × V)) = [(("address" : Str), v0)] := rfl
theorem placeF_b1 {v0 v1 : V} : putF "state" v1 ([(("address" : Str), v0)] : List (Str × V)) = [(("address" : Str), v0), (("state" : Str), v1)] := (pf_n (by decide +kernel)).trans (congrArg _ (rfl))
theorem placeF_b2 {v0 v1 v2 : V} : putF "till" v2 ([(("address" : Str), v0), (("state" : Str), v1)] : List (Str × V)) = [(("address" : Str), v0), (("state" : Str), v1), (("till" : Str), v2)] := (pf_n (by decide +kernel)).trans (congrArg _ ((pf_n (by decide +kernel)).trans (congrArg _ (rfl))))
theorem placeF_b3 {v0 v1 v2 v3 : V} : putF "owner" v3 ([(("address" : Str), v0), (("state" : Str), v1), (("till" : Str), v2)] : List (Str × V)) = [(("address" : Str), v0), (("state" : Str), v1), (("till" : Str), v2), (("owner" : Str), v3)] := (pf_n (by decide +kernel)).trans (congrArg _ ((pf_n (by decide +kernel)).trans (congrArg _ ((pf_n (by decide +kernel)).trans (congrArg _ (rfl))))))
theorem placeF_p_address {v0 v1 v2 v3 y : V} : putF "address" y (placeF v0 v1 v2 v3) = placeF y v1 v2 v3 := pf_h
theorem placeF_p_state {v0 v1 v2 v3 y : V} : putF "state" y (placeF v0 v1 v2 v3) = placeF v0 y v2 v3 := (pf_n (by decide +kernel)).trans (congrArg _ (pf_h))
theorem placeF_p_till {v0 v1 v2 v3 y : V} : putF "till" y (placeF v0 v1 v2 v3) = placeF v0 v1 y v3 := (pf_n (by decide +kernel)).trans (congrArg _ ((pf_n (by decide +kernel)).trans (congrArg _ (pf_h))))
theorem placeF_p_owner {v0 v1 v2 v3 y : V} : putF "owner" y (placeF v0 v1 v2 v3) = placeF v0 v1 v2 y := (pf_n (by decide +kernel)).trans (congrArg _ ((pf_n (by decide +kernel)).trans (congrArg _ ((pf_n (by decide +kernel)).trans (congrArg _ (pf_h))))))
def messageF (v0 v1 v2 v3 v4 v5 v6 v7 v8 v9 : V) : List (Str × V) := [("number", v0), ("flags", v1), ("client", v2), ("relay", v3), ("machine", v4), ("kind", v5), ("wanted", v6), ("server", v7), ("identifier", v8), ("who", v9)]
theorem messageF_number {v0 v1 v2 v3 v4 v5 v6 v7 v8 v9 : V} : (messageF v0 v1 v2 v3 v4 v5 v6 v7 v8 v9).lookup ("number" : Str) = some v0 := lk_h
theorem messageF_flags {v0 v1 v2 v3 v4 v5 v6 v7 v8 v9 : V} : (messageF v0 v1 v2 v3 v4 v5 v6 v7 v8 v9).lookup ("flags" : Str) = some v1 := (lk_n (by decide +kernel)).trans (lk_h)
theorem messageF_client {v0 v1 v2 v3 v4 v5 v6 v7 v8 v9 : V} : (messageF v0 v1 v2 v3 v4 v5 v6 v7 v8 v9).lookup ("client" : Str) = some v2 := (lk_n (by decide +kernel)).trans ((lk_n (by decide +kernel)).trans (lk_h))
theorem messageF_relay {v0 v1 v2 v3 v4 v5 v6 v7 v8 v9 : V} : (messageF v0 v1 v2 v3 v4 v5 v6 v7 v8 v9).lookup ("relay" : Str) = some v3 := (lk_n (by decide +kernel)).trans ((lk_n (by decide +kernel)).trans ((lk_n (by decide +kernel)).trans (lk_h)))
theorem messageF_machine {v0 v1 v2 v3 v4 v5 v6 v7 v8 v9 : V} : (messageF v0 v1 v2 v3 v4 v5 v6 v7 v8 v9).lookup ("machine" : Str) = some v4 := (lk_n (by decide +kernel)).trans ((lk_n (by decide +kernel)).trans ((lk_n (by decide +kernel)).trans ((lk_n (by decide +kernel)).trans (lk_h))))
theorem messageF_kind {v0 v1 v2 v3 v4 v5 v6 v7 v8 v9 : V} : (messageF v0 v1 v2 v3 v4 v5 v6 v7 v8 v9).lookup ("kind" : Str) = some v5 := (lk_n (by decide +kernel)).trans ((lk_n (by decide +kernel)).trans ((lk_n (by decide +kernel)).trans ((lk_n (by decide +kernel)).trans ((lk_n (by decide +kernel)).trans (lk_h)))))
theorem messageF_wanted {v0 v1 v2 v3 v4 v5 v6 v7 v8 v9 : V} : (messageF v0 v1 v2 v3 v4 v5 v6 v7 v8 v9).lookup ("wanted" : Str) = some v6 := (lk_n (by decide +kernel)).trans ((lk_n (by decide +kernel)).trans ((lk_n (by decide +kernel)).trans ((lk_n (by decide +kernel)).trans ((lk_n (by decide +kernel)).trans ((lk_n (by decide +kernel)).trans (lk_h))))))
theorem messageF_server {v0 v1 v2 v3 v4 v5 v6 v7 v8 v9 : V} : (messageF v0 v1 v2 v3 v4 v5 v6 v7 v8 v9).lookup ("server" : Str) = some v7 := (lk_n (by decide +kernel)).trans ((lk_n (by decide +kernel)).trans ((lk_n (by decide +kernel)).trans ((lk_n (by decide +kernel)).trans ((lk_n (by decide +kernel)).trans ((lk_n (by decide +kernel)).trans ((lk_n (by decide +kernel)).trans (lk_h)))))))
theorem messageF_identifier {v0 v1 v2 v3 v4 v5 v6 v7 v8 v9 : V} : (messageF v0 v1 v2 v3 v4 v5 v6 v7 v8 v9).lookup ("identifier" : Str) = some v8 := (lk_n (by decide +kernel)).trans ((lk_n (by decide +kernel)).trans ((lk_n (by decide +kernel)).trans ((lk_n (by decide +kernel)).trans ((lk_n (by decide +kernel)).trans ((lk_n (by decide +kernel)).trans ((lk_n (by decide +kernel)).trans ((lk_n (by decide +kernel)).trans (lk_h))))))))
theorem messageF_who {v0 v1 v2 v3 v4 v5 v6 v7 v8 v9 : V} : (messageF v0 v1 v2 v3 v4 v5 v6 v7 v8 v9).lookup ("who" : Str) = some v9 := (lk_n (by decide +kernel)).trans ((lk_n (by decide +kernel)).trans ((lk_n (by decide +kernel)).trans ((lk_n (by decide +kernel)).trans ((lk_n (by decide +kernel)).trans ((lk_n (by decide +kernel)).trans ((lk_n (by decide +kernel)).trans ((lk_n (by decide +kernel)).trans ((lk_n (by decide +kernel)).trans (lk_h)))))))))
theorem messageF_b0 {v0 : V} : putF "number" v0 ([] : List (Str × V)) = [(("number" : Str), v0)] := rfl
theorem messageF_b1 {v0 v1 : V} : putF "flags" v1 ([(("number" : Str), v0)] : List (Str × V)) = [(("number" : Str), v0), (("flags" : Str), v1)] := (pf_n (by decide +kernel)).trans (congrArg _ (rfl))
theorem messageF_b2 {v0 v1 v2 : V} : putF "client" v2 ([(("number" : Str), v0), (("flags" : Str), v1)] : List (Str × V)) = [(("number" : Str), v0), (("flags" : Str), v1), (("client" : Str), v2)] := (pf_n (by decide +kernel)).trans (congrArg _ ((pf_n (by decide +kernel)).trans (congrArg _ (rfl))))
theorem messageF_b3 {v0 v1 v2 v3 : V} : putF "relay" v3 ([(("number" : Str), v0), (("flags" : Str), v1), (("client" : Str), v2)] : List (Str × V)) = [(("number" : Str), v0), (("flags" : Str), v1), (("client" : Str), v2), (("relay" : Str), v3)] := (pf_n (by decide +kernel)).trans (congrArg _ ((pf_n (by decide +kernel)).trans (congrArg _ ((pf_n (by decide +kernel)).trans (congrArg _ (rfl))))))
theorem messageF_b4 {v0 v1 v2 v3 v4 : V} : putF "machine" v4 ([(("number" : Str), v0), (("flags" : Str), v1), (("client" : Str), v2), (("relay" : Str), v3)] : List (Str × V)) = [(("number" : Str), v0), (("flags" : Str), v1), (("client" : Str), v2), (("relay" : Str), v3), (("machine" : Str), v4)] := (pf_n (by decide +kernel)).trans (congrArg _ ((pf_n (by decide +kernel)).trans (congrArg _ ((pf_n (by decide +kernel)).trans (congrArg _ ((pf_n (by decide +kernel)).trans (congrArg _ (rfl))))))))
theorem messageF_b5 {v0 v1 v2 v3 v4 v5 : V} : putF "kind" v5 ([(("number" : Str), v0), (("flags" : Str), v1), (("client" : Str), v2), (("relay" : Str), v3), (("machine" : Str), v4)] : List (Str × V)) = [(("number" : Str), v0), (("flags" : Str), v1), (("client" : Str), v2), (("relay" : Str), v3), (("machine" : Str), v4), (("kind" : Str), v5)] := (pf_n (by decide +kernel)).trans (congrArg _ ((pf_n (by decide +kernel)).trans (congrArg _ ((pf_n (by decide +kernel)).trans (congrArg _ ((pf_n (by decide +kernel)).trans (congrArg _ ((pf_n (by decide +kernel)).trans (congrArg _ (rfl))))))))))
theorem messageF_b6 {v0 v1 v2 v3 v4 v5 v6 : V} : putF "wanted" v6 ([(("number" : Str), v0), (("flags" : Str), v1), (("client" : Str), v2), (("relay" : Str), v3), (("machine" : Str), v4), (("kind" : Str), v5)] : List (Str × V)) = [(("number" : Str), v0), (("flags" : Str), v1), (("client" : Str), v2), (("relay" : Str), v3), (("machine" : Str), v4), (("kind" : Str), v5), (("wanted" : Str), v6)] := (pf_n (by decide +kernel)).trans (congrArg _ ((pf_n (by decide +kernel)).trans (congrArg _ ((pf_n (by decide +kernel)).trans (congrArg _ ((pf_n (by decide +kernel)).trans (congrArg _ ((pf_n (by decide +kernel)).trans (congrArg _ ((pf_n (by decide +kernel)).trans (congrArg _ (rfl))))))))))))
theorem messageF_b7 {v0 v1 v2 v3 v4 v5 v6 v7 : V} : putF "server" v7 ([(("number" : Str), v0), (("flags" : Str), v1), (("client" : Str), v2), (("relay" : Str), v3), (("machine" : Str), v4), (("kind" : Str), v5), (("wanted" : Str), v6)] : List (Str × V)) = [(("number" : Str), v0), (("flags" : Str), v1), (("client" : Str), v2), (("relay" : Str), v3), (("machine" : Str), v4), (("kind" : Str), v5), (("wanted" : Str), v6), (("server" : Str), v7)] := (pf_n (by decide +kernel)).trans (congrArg _ ((pf_n (by decide +kernel)).trans (congrArg _ ((pf_n (by decide +kernel)).trans (congrArg _ ((pf_n (by decide +kernel)).trans (congrArg _ ((pf_n (by decide +kernel)).trans (congrArg _ ((pf_n (by decide +kernel)).trans (congrArg _ ((pf_n (by decide +kernel)).trans (congrArg _ (rfl))))))))))))))
theorem messageF_b8 {v0 v1 v2 v3 v4 v5 v6 v7 v8 : V} : putF "identifier" v8 ([(("number" : Str), v0), (("flags" : Str), v1), (("client" : Str), v2), (("relay" : Str), v3), (("machine" : Str), v4), (("kind" : Str), v5), (("wanted" : Str), v6), (("server" : Str), v7)] : List (Str × V)) = [(("number" : Str), v0), (("flags" : Str), v1), (("client" : Str), v2), (("relay" : Str), v3), (("machine" : Str), v4), (("kind" : Str), v5), (("wanted" : Str), v6), (("server" : Str), v7), (("identifier" : Str), v8)] := (pf_n (by decide +kernel)).trans (congrArg _ ((pf_n (by decide +kernel)).trans (congrArg _ ((pf_n (by decide +kernel)).trans (congrArg _ ((pf_n (by decide +kernel)).trans (congrArg _ ((pf_n (by decide +kernel)).trans (congrArg _ ((pf_n (by decide +kernel)).trans (congrArg _ ((pf_n (by decide +kernel)).trans (congrArg _ ((pf_n (by decide +kernel)).trans (congrArg _ (rfl))))))))))))))))
theorem messageF_b9 {v0 v1 v2 v3 v4 v5 v6 v7 v8 v9 : V} : putF "who" v9 ([(("number" : Str), v0), (("flags" : Str), v1), (("client" : Str), v2), (("relay" : Str), v3), (("machine" : Str), v4), (("kind" : Str), v5), (("wanted" : Str), v6), (("server" : Str), v7), (("identifier" : Str), v8)] : List (Str × V)) = [(("number" : Str), v0), (("flags" : Str), v1), (("client" : Str), v2), (("relay" : Str), v3), (("machine" : Str), v4), (("kind" : Str), v5), (("wanted" : Str), v6), (("server" : Str), v7), (("identifier" : Str), v8), (("who" : Str), v9)] := (pf_n (by decide +kernel)).trans (congrArg _ ((pf_n (by decide +kernel)).trans (congrArg _ ((pf_n (by decide +kernel)).trans (congrArg _ ((pf_n (by decide +kernel)).trans (congrArg _ ((pf_n (by decide +kernel)).trans (congrArg _ ((pf_n (by decide +kernel)).trans (congrArg _ ((pf_n (by decide +kernel)).trans (congrArg _ ((pf_n (by decide +kernel)).trans (congrArg _ ((pf_n (by decide +kernel)).trans (congrArg _ (rfl))))))))))))))))))
theorem messageF_p_number {v0 v1 v2 v3 v4 v5 v6 v7 v8 v9 y : V} : putF "number" y (messageF v0 v1 v2 v3 v4 v5 v6 v7 v8 v9) = messageF y v1 v2 v3 v4 v5 v6 v7 v8 v9 := pf_h
theorem messageF_p_flags {v0 v1 v2 v3 v4 v5 v6 v7 v8 v9 y : V} : putF "flags" y (messageF v0 v1 v2 v3 v4 v5 v6 v7 v8 v9) = messageF v0 y v2 v3 v4 v5 v6 v7 v8 v9 := (pf_n (by decide +kernel)).trans (congrArg _ (pf_h))
theorem messageF_p_client {v0 v1 v2 v3 v4 v5 v6 v7 v8 v9 y : V} : putF "client" y (messageF v0 v1 v2 v3 v4 v5 v6 v7 v8 v9) = messageF v0 v1 y v3 v4 v5 v6 v7 v8 v9 := (pf_n (by decide +kernel)).trans (congrArg _ ((pf_n (by decide +kernel)).trans (congrArg _ (pf_h))))
theorem messageF_p_relay {v0 v1 v2 v3 v4 v5 v6 v7 v8 v9 y : V} : putF "relay" y (messageF v0 v1 v2 v3 v4 v5 v6 v7 v8 v9) = messageF v0 v1 v2 y v4 v5 v6 v7 v8 v9 := (pf_n (by decide +kernel)).trans (congrArg _ ((pf_n (by decide +kernel)).trans (congrArg _ ((pf_n (by decide +kernel)).trans (congrArg _ (pf_h))))))
theorem messageF_p_machine {v0 v1 v2 v3 v4 v5 v6 v7 v8 v9 y : V} : putF "machine" y (messageF v0 v1 v2 v3 v4 v5 v6 v7 v8 v9) = messageF v0 v1 v2 v3 y v5 v6 v7 v8 v9 := (pf_n (by decide +kernel)).trans (congrArg _ ((pf_n (by decide +kernel)).trans (congrArg _ ((pf_n (by decide +kernel)).trans (congrArg _ ((pf_n (by decide +kernel)).trans (congrArg _ (pf_h))))))))
theorem messageF_p_kind {v0 v1 v2 v3 v4 v5 v6 v7 v8 v9 y : V} : putF "kind" y (messageF v0 v1 v2 v3 v4 v5 v6 v7 v8 v9) = messageF v0 v1 v2 v3 v4 y v6 v7 v8 v9 := (pf_n (by decide +kernel)).trans (congrArg _ ((pf_n (by decide +kernel)).trans (congrArg _ ((pf_n (by decide +kernel)).trans (congrArg _ ((pf_n (by decide +kernel)).trans (congrArg _ ((pf_n (by decide +kernel)).trans (congrArg _ (pf_h))))))))))
theorem messageF_p_wanted {v0 v1 v2 v3 v4 v5 v6 v7 v8 v9 y : V} : putF "wanted" y (messageF v0 v1 v2 v3 v4 v5 v6 v7 v8 v9) = messageF v0 v1 v2 v3 v4 v5 y v7 v8 v9 := (pf_n (by decide +kernel)).trans (congrArg _ ((pf_n (by decide +kernel)).trans (congrArg _ ((pf_n (by decide +kernel)).trans (congrArg _ ((pf_n (by decide +kernel)).trans (congrArg _ ((pf_n (by decide +kernel)).trans (congrArg _ ((pf_n (by decide +kernel)).trans (congrArg _ (pf_h))))))))))))
theorem messageF_p_server {v0 v1 v2 v3 v4 v5 v6 v7 v8 v9 y : V} : putF "server" y (messageF v0 v1 v2 v3 v4 v5 v6 v7 v8 v9) = messageF v0 v1 v2 v3 v4 v5 v6 y v8 v9 := (pf_n (by decide +kernel)).trans (congrArg _ ((pf_n (by decide +kernel)).trans (congrArg _ ((pf_n (by decide +kernel)).trans (congrArg _ ((pf_n (by decide +kernel)).trans (congrArg _ ((pf_n (by decide +kernel)).trans (congrArg _ ((pf_n (by decide +kernel)).trans (congrArg _ ((pf_n (by decide +kernel)).trans (congrArg _ (pf_h))))))))))))))
theorem messageF_p_identifier {v0 v1 v2 v3 v4 v5 v6 v7 v8 v9 y : V} : putF "identifier" y (messageF v0 v1 v2 v3 v4 v5 v6 v7 v8 v9) = messageF v0 v1 v2 v3 v4 v5 v6 v7 y v9 := (pf_n (by decide +kernel)).trans (congrArg _ ((pf_n (by decide +kernel)).trans (congrArg _ ((pf_n (by decide +kernel)).trans (congrArg _ ((pf_n (by decide +kernel)).trans (congrArg _ ((pf_n (by decide +kernel)).trans (congrArg _ ((pf_n (by decide +kernel)).trans (congrArg _ ((pf_n (by decide +kernel)).trans (congrArg _ ((pf_n (by decide +kernel)).trans (congrArg _ (pf_h))))))))))))))))
theorem messageF_p_who {v0 v1 v2 v3 v4 v5 v6 v7 v8 v9 y : V} : putF "who" y (messageF v0 v1 v2 v3 v4 v5 v6 v7 v8 v9) = messageF v0 v1 v2 v3 v4 v5 v6 v7 v8 y := (pf_n (by decide +kernel)).trans (congrArg _ ((pf_n (by decide +kernel)).trans (congrArg _ ((pf_n (by decide +kernel)).trans (congrArg _ ((pf_n (by decide +kernel)).trans (congrArg _ ((pf_n (by decide +kernel)).trans (congrArg _ ((pf_n (by decide +kernel)).trans (congrArg _ ((pf_n (by decide +kernel)).trans (congrArg _ ((pf_n (by decide +kernel)).trans (congrArg _ ((pf_n (by decide +kernel)).trans (congrArg _ (pf_h))))))))))))))))))
def lenderF (v0 v1 v2 : V) : List (Str × V) := [("net", v0), ("now", v1), ("places", v2)]
theorem lenderF_net {v0 v1 v2 : V} : (lenderF v0 v1 v2).lookup ("net" : Str) = some v0 := lk_h
theorem lenderF_now {v0 v1 v2 : V} : (lenderF v0 v1 v2).lookup ("now" : Str) = some v1 := (lk_n (by decide +kernel)).trans (lk_h)
theorem lenderF_places {v0 v1 v2 : V} : (lenderF v0 v1 v2).lookup ("places" : Str) = some v2 := (lk_n (by decide +kernel)).trans ((lk_n (by decide +kernel)).trans (lk_h))
theorem lenderF_m_tick {v0 v1 v2 : V} : (lenderF v0 v1 v2).lookup ("tick" : Str) = none := (lk_n (by decide +kernel)).trans ((lk_n (by decide +kernel)).trans ((lk_n (by decide +kernel)).trans (rfl)))
theorem lenderF_m_look {v0 v1 v2 : V} : (lenderF v0 v1 v2).lookup ("look" : Str) = none := (lk_n (by decide +kernel)).trans ((lk_n (by decide +kernel)).trans ((lk_n (by decide +kernel)).trans (rfl)))
theorem lenderF_m_handle {v0 v1 v2 : V} : (lenderF v0 v1 v2).lookup ("handle" : Str) = none := (lk_n (by decide +kernel)).trans ((lk_n (by decide +kernel)).trans ((lk_n (by decide +kernel)).trans (rfl)))
theorem lenderF_m_place_at {v0 v1 v2 : V} : (lenderF v0 v1 v2).lookup ("place_at" : Str) = none := (lk_n (by decide +kernel)).trans ((lk_n (by decide +kernel)).trans ((lk_n (by decide +kernel)).trans (rfl)))
theorem lenderF_m_own_at {v0 v1 v2 : V} : (lenderF v0 v1 v2).lookup ("own_at" : Str) = none := (lk_n (by decide +kernel)).trans ((lk_n (by decide +kernel)).trans ((lk_n (by decide +kernel)).trans (rfl)))
theorem lenderF_m_discover {v0 v1 v2 : V} : (lenderF v0 v1 v2).lookup ("discover" : Str) = none := (lk_n (by decide +kernel)).trans ((lk_n (by decide +kernel)).trans ((lk_n (by decide +kernel)).trans (rfl)))
theorem lenderF_m_choose {v0 v1 v2 : V} : (lenderF v0 v1 v2).lookup ("choose" : Str) = none := (lk_n (by decide +kernel)).trans ((lk_n (by decide +kernel)).trans ((lk_n (by decide +kernel)).trans (rfl)))
theorem lenderF_m_request {v0 v1 v2 : V} : (lenderF v0 v1 v2).lookup ("request" : Str) = none := (lk_n (by decide +kernel)).trans ((lk_n (by decide +kernel)).trans ((lk_n (by decide +kernel)).trans (rfl)))
theorem lenderF_m_request_offered {v0 v1 v2 : V} : (lenderF v0 v1 v2).lookup ("request_offered" : Str) = none := (lk_n (by decide +kernel)).trans ((lk_n (by decide +kernel)).trans ((lk_n (by decide +kernel)).trans (rfl)))
theorem lenderF_m_request_known {v0 v1 v2 : V} : (lenderF v0 v1 v2).lookup ("request_known" : Str) = none := (lk_n (by decide +kernel)).trans ((lk_n (by decide +kernel)).trans ((lk_n (by decide +kernel)).trans (rfl)))
theorem lenderF_m_request_again {v0 v1 v2 : V} : (lenderF v0 v1 v2).lookup ("request_again" : Str) = none := (lk_n (by decide +kernel)).trans ((lk_n (by decide +kernel)).trans ((lk_n (by decide +kernel)).trans (rfl)))
theorem lenderF_m_lend {v0 v1 v2 : V} : (lenderF v0 v1 v2).lookup ("lend" : Str) = none := (lk_n (by decide +kernel)).trans ((lk_n (by decide +kernel)).trans ((lk_n (by decide +kernel)).trans (rfl)))
theorem lenderF_m_deny {v0 v1 v2 : V} : (lenderF v0 v1 v2).lookup ("deny" : Str) = none := (lk_n (by decide +kernel)).trans ((lk_n (by decide +kernel)).trans ((lk_n (by decide +kernel)).trans (rfl)))
theorem lenderF_m_take_back {v0 v1 v2 : V} : (lenderF v0 v1 v2).lookup ("take_back" : Str) = none := (lk_n (by decide +kernel)).trans ((lk_n (by decide +kernel)).trans ((lk_n (by decide +kernel)).trans (rfl)))
theorem lenderF_m_decline {v0 v1 v2 : V} : (lenderF v0 v1 v2).lookup ("decline" : Str) = none := (lk_n (by decide +kernel)).trans ((lk_n (by decide +kernel)).trans ((lk_n (by decide +kernel)).trans (rfl)))
theorem lenderF_m_release {v0 v1 v2 : V} : (lenderF v0 v1 v2).lookup ("release" : Str) = none := (lk_n (by decide +kernel)).trans ((lk_n (by decide +kernel)).trans ((lk_n (by decide +kernel)).trans (rfl)))
theorem lenderF_b0 {v0 : V} : putF "net" v0 ([] : List (Str × V)) = [(("net" : Str), v0)] := rfl
theorem lenderF_b1 {v0 v1 : V} : putF "now" v1 ([(("net" : Str), v0)] : List (Str × V)) = [(("net" : Str), v0), (("now" : Str), v1)] := (pf_n (by decide +kernel)).trans (congrArg _ (rfl))
theorem lenderF_b2 {v0 v1 v2 : V} : putF "places" v2 ([(("net" : Str), v0), (("now" : Str), v1)] : List (Str × V)) = [(("net" : Str), v0), (("now" : Str), v1), (("places" : Str), v2)] := (pf_n (by decide +kernel)).trans (congrArg _ ((pf_n (by decide +kernel)).trans (congrArg _ (rfl))))
theorem lenderF_p_net {v0 v1 v2 y : V} : putF "net" y (lenderF v0 v1 v2) = lenderF y v1 v2 := pf_h
theorem lenderF_p_now {v0 v1 v2 y : V} : putF "now" y (lenderF v0 v1 v2) = lenderF v0 y v2 := (pf_n (by decide +kernel)).trans (congrArg _ (pf_h))
theorem lenderF_p_places {v0 v1 v2 y : V} : putF "places" y (lenderF v0 v1 v2) = lenderF v0 v1 y := (pf_n (by decide +kernel)).trans (congrArg _ ((pf_n (by decide +kernel)).trans (congrArg _ (pf_h))))
def netF (v0 v1 v2 v3 v4 v5 v6 v7 : V) : List (Str × V) := [("server", v0), ("mask", v1), ("way_out", v2), ("names", v3), ("first", v4), ("how_many", v5), ("how_long", v6), ("last", v7)]
theorem netF_server {v0 v1 v2 v3 v4 v5 v6 v7 : V} : (netF v0 v1 v2 v3 v4 v5 v6 v7).lookup ("server" : Str) = some v0 := lk_h
theorem netF_mask {v0 v1 v2 v3 v4 v5 v6 v7 : V} : (netF v0 v1 v2 v3 v4 v5 v6 v7).lookup ("mask" : Str) = some v1 := (lk_n (by decide +kernel)).trans (lk_h)
theorem netF_way_out {v0 v1 v2 v3 v4 v5 v6 v7 : V} : (netF v0 v1 v2 v3 v4 v5 v6 v7).lookup ("way_out" : Str) = some v2 := (lk_n (by decide +kernel)).trans ((lk_n (by decide +kernel)).trans (lk_h))
theorem netF_names {v0 v1 v2 v3 v4 v5 v6 v7 : V} : (netF v0 v1 v2 v3 v4 v5 v6 v7).lookup ("names" : Str) = some v3 := (lk_n (by decide +kernel)).trans ((lk_n (by decide +kernel)).trans ((lk_n (by decide +kernel)).trans (lk_h)))
theorem netF_first {v0 v1 v2 v3 v4 v5 v6 v7 : V} : (netF v0 v1 v2 v3 v4 v5 v6 v7).lookup ("first" : Str) = some v4 := (lk_n (by decide +kernel)).trans ((lk_n (by decide +kernel)).trans ((lk_n (by decide +kernel)).trans ((lk_n (by decide +kernel)).trans (lk_h))))
theorem netF_how_many {v0 v1 v2 v3 v4 v5 v6 v7 : V} : (netF v0 v1 v2 v3 v4 v5 v6 v7).lookup ("how_many" : Str) = some v5 := (lk_n (by decide +kernel)).trans ((lk_n (by decide +kernel)).trans ((lk_n (by decide +kernel)).trans ((lk_n (by decide +kernel)).trans ((lk_n (by decide +kernel)).trans (lk_h)))))
theorem netF_how_long {v0 v1 v2 v3 v4 v5 v6 v7 : V} : (netF v0 v1 v2 v3 v4 v5 v6 v7).lookup ("how_long" : Str) = some v6 := (lk_n (by decide +kernel)).trans ((lk_n (by decide +kernel)).trans ((lk_n (by decide +kernel)).trans ((lk_n (by decide +kernel)).trans ((lk_n (by decide +kernel)).trans ((lk_n (by decide +kernel)).trans (lk_h))))))
theorem netF_last {v0 v1 v2 v3 v4 v5 v6 v7 : V} : (netF v0 v1 v2 v3 v4 v5 v6 v7).lookup ("last" : Str) = some v7 := (lk_n (by decide +kernel)).trans ((lk_n (by decide +kernel)).trans ((lk_n (by decide +kernel)).trans ((lk_n (by decide +kernel)).trans ((lk_n (by decide +kernel)).trans ((lk_n (by decide +kernel)).trans ((lk_n (by decide +kernel)).trans (lk_h)))))))
theorem netF_m_lends {v0 v1 v2 v3 v4 v5 v6 v7 : V} : (netF v0 v1 v2 v3 v4 v5 v6 v7).lookup ("lends" : Str) = none := (lk_n (by decide +kernel)).trans ((lk_n (by decide +kernel)).trans ((lk_n (by decide +kernel)).trans ((lk_n (by decide +kernel)).trans ((lk_n (by decide +kernel)).trans ((lk_n (by decide +kernel)).trans ((lk_n (by decide +kernel)).trans ((lk_n (by decide +kernel)).trans (rfl))))))))
theorem netF_m_shares_net {v0 v1 v2 v3 v4 v5 v6 v7 : V} : (netF v0 v1 v2 v3 v4 v5 v6 v7).lookup ("shares_net" : Str) = none := (lk_n (by decide +kernel)).trans ((lk_n (by decide +kernel)).trans ((lk_n (by decide +kernel)).trans ((lk_n (by decide +kernel)).trans ((lk_n (by decide +kernel)).trans ((lk_n (by decide +kernel)).trans ((lk_n (by decide +kernel)).trans ((lk_n (by decide +kernel)).trans (rfl))))))))
theorem netF_m_is_right {v0 v1 v2 v3 v4 v5 v6 v7 : V} : (netF v0 v1 v2 v3 v4 v5 v6 v7).lookup ("is_right" : Str) = none := (lk_n (by decide +kernel)).trans ((lk_n (by decide +kernel)).trans ((lk_n (by decide +kernel)).trans ((lk_n (by decide +kernel)).trans ((lk_n (by decide +kernel)).trans ((lk_n (by decide +kernel)).trans ((lk_n (by decide +kernel)).trans ((lk_n (by decide +kernel)).trans (rfl))))))))
theorem netF_b0 {v0 : V} : putF "server" v0 ([] : List (Str × V)) = [(("server" : Str), v0)] := rfl
theorem netF_b1 {v0 v1 : V} : putF "mask" v1 ([(("server" : Str), v0)] : List (Str × V)) = [(("server" : Str), v0), (("mask" : Str), v1)] := (pf_n (by decide +kernel)).trans (congrArg _ (rfl))
theorem netF_b2 {v0 v1 v2 : V} : putF "way_out" v2 ([(("server" : Str), v0), (("mask" : Str), v1)] : List (Str × V)) = [(("server" : Str), v0), (("mask" : Str), v1), (("way_out" : Str), v2)] := (pf_n (by decide +kernel)).trans (congrArg _ ((pf_n (by decide +kernel)).trans (congrArg _ (rfl))))
theorem netF_b3 {v0 v1 v2 v3 : V} : putF "names" v3 ([(("server" : Str), v0), (("mask" : Str), v1), (("way_out" : Str), v2)] : List (Str × V)) = [(("server" : Str), v0), (("mask" : Str), v1), (("way_out" : Str), v2), (("names" : Str), v3)] := (pf_n (by decide +kernel)).trans (congrArg _ ((pf_n (by decide +kernel)).trans (congrArg _ ((pf_n (by decide +kernel)).trans (congrArg _ (rfl))))))
theorem netF_b4 {v0 v1 v2 v3 v4 : V} : putF "first" v4 ([(("server" : Str), v0), (("mask" : Str), v1), (("way_out" : Str), v2), (("names" : Str), v3)] : List (Str × V)) = [(("server" : Str), v0), (("mask" : Str), v1), (("way_out" : Str), v2), (("names" : Str), v3), (("first" : Str), v4)] := (pf_n (by decide +kernel)).trans (congrArg _ ((pf_n (by decide +kernel)).trans (congrArg _ ((pf_n (by decide +kernel)).trans (congrArg _ ((pf_n (by decide +kernel)).trans (congrArg _ (rfl))))))))
theorem netF_b5 {v0 v1 v2 v3 v4 v5 : V} : putF "how_many" v5 ([(("server" : Str), v0), (("mask" : Str), v1), (("way_out" : Str), v2), (("names" : Str), v3), (("first" : Str), v4)] : List (Str × V)) = [(("server" : Str), v0), (("mask" : Str), v1), (("way_out" : Str), v2), (("names" : Str), v3), (("first" : Str), v4), (("how_many" : Str), v5)] := (pf_n (by decide +kernel)).trans (congrArg _ ((pf_n (by decide +kernel)).trans (congrArg _ ((pf_n (by decide +kernel)).trans (congrArg _ ((pf_n (by decide +kernel)).trans (congrArg _ ((pf_n (by decide +kernel)).trans (congrArg _ (rfl))))))))))
theorem netF_b6 {v0 v1 v2 v3 v4 v5 v6 : V} : putF "how_long" v6 ([(("server" : Str), v0), (("mask" : Str), v1), (("way_out" : Str), v2), (("names" : Str), v3), (("first" : Str), v4), (("how_many" : Str), v5)] : List (Str × V)) = [(("server" : Str), v0), (("mask" : Str), v1), (("way_out" : Str), v2), (("names" : Str), v3), (("first" : Str), v4), (("how_many" : Str), v5), (("how_long" : Str), v6)] := (pf_n (by decide +kernel)).trans (congrArg _ ((pf_n (by decide +kernel)).trans (congrArg _ ((pf_n (by decide +kernel)).trans (congrArg _ ((pf_n (by decide +kernel)).trans (congrArg _ ((pf_n (by decide +kernel)).trans (congrArg _ ((pf_n (by decide +kernel)).trans (congrArg _ (rfl))))))))))))
theorem netF_b7 {v0 v1 v2 v3 v4 v5 v6 v7 : V} : putF "last" v7 ([(("server" : Str), v0), (("mask" : Str), v1), (("way_out" : Str), v2), (("names" : Str), v3), (("first" : Str), v4), (("how_many" : Str), v5), (("how_long" : Str), v6)] : List (Str × V)) = [(("server" : Str), v0), (("mask" : Str), v1), (("way_out" : Str), v2), (("names" : Str), v3), (("first" : Str), v4), (("how_many" : Str), v5), (("how_long" : Str), v6), (("last" : Str), v7)] := (pf_n (by decide +kernel)).trans (congrArg _ ((pf_n (by decide +kernel)).trans (congrArg _ ((pf_n (by decide +kernel)).trans (congrArg _ ((pf_n (by decide +kernel)).trans (congrArg _ ((pf_n (by decide +kernel)).trans (congrArg _ ((pf_n (by decide +kernel)).trans (congrArg _ ((pf_n (by decide +kernel)).trans (congrArg _ (rfl))))))))))))))
theorem netF_p_server {v0 v1 v2 v3 v4 v5 v6 v7 y : V} : putF "server" y (netF v0 v1 v2 v3 v4 v5 v6 v7) = netF y v1 v2 v3 v4 v5 v6 v7 := pf_h
theorem netF_p_mask {v0 v1 v2 v3 v4 v5 v6 v7 y : V} : putF "mask" y (netF v0 v1 v2 v3 v4 v5 v6 v7) = netF v0 y v2 v3 v4 v5 v6 v7 := (pf_n (by decide +kernel)).trans (congrArg _ (pf_h))
theorem netF_p_way_out {v0 v1 v2 v3 v4 v5 v6 v7 y : V} : putF "way_out" y (netF v0 v1 v2 v3 v4 v5 v6 v7) = netF v0 v1 y v3 v4 v5 v6 v7 := (pf_n (by decide +kernel)).trans (congrArg _ ((pf_n (by decide +kernel)).trans (congrArg _ (pf_h))))
theorem netF_p_names {v0 v1 v2 v3 v4 v5 v6 v7 y : V} : putF "names" y (netF v0 v1 v2 v3 v4 v5 v6 v7) = netF v0 v1 v2 y v4 v5 v6 v7 := (pf_n (by decide +kernel)).trans (congrArg _ ((pf_n (by decide +kernel)).trans (congrArg _ ((pf_n (by decide +kernel)).trans (congrArg _ (pf_h))))))
theorem netF_p_first {v0 v1 v2 v3 v4 v5 v6 v7 y : V} : putF "first" y (netF v0 v1 v2 v3 v4 v5 v6 v7) = netF v0 v1 v2 v3 y v5 v6 v7 := (pf_n (by decide +kernel)).trans (congrArg _ ((pf_n (by decide +kernel)).trans (congrArg _ ((pf_n (by decide +kernel)).trans (congrArg _ ((pf_n (by decide +kernel)).trans (congrArg _ (pf_h))))))))
theorem netF_p_how_many {v0 v1 v2 v3 v4 v5 v6 v7 y : V} : putF "how_many" y (netF v0 v1 v2 v3 v4 v5 v6 v7) = netF v0 v1 v2 v3 v4 y v6 v7 := (pf_n (by decide +kernel)).trans (congrArg _ ((pf_n (by decide +kernel)).trans (congrArg _ ((pf_n (by decide +kernel)).trans (congrArg _ ((pf_n (by decide +kernel)).trans (congrArg _ ((pf_n (by decide +kernel)).trans (congrArg _ (pf_h))))))))))
theorem netF_p_how_long {v0 v1 v2 v3 v4 v5 v6 v7 y : V} : putF "how_long" y (netF v0 v1 v2 v3 v4 v5 v6 v7) = netF v0 v1 v2 v3 v4 v5 y v7 := (pf_n (by decide +kernel)).trans (congrArg _ ((pf_n (by decide +kernel)).trans (congrArg _ ((pf_n (by decide +kernel)).trans (congrArg _ ((pf_n (by decide +kernel)).trans (congrArg _ ((pf_n (by decide +kernel)).trans (congrArg _ ((pf_n (by decide +kernel)).trans (congrArg _ (pf_h))))))))))))
theorem netF_p_last {v0 v1 v2 v3 v4 v5 v6 v7 y : V} : putF "last" y (netF v0 v1 v2 v3 v4 v5 v6 v7) = netF v0 v1 v2 v3 v4 v5 v6 y := (pf_n (by decide +kernel)).trans (congrArg _ ((pf_n (by decide +kernel)).trans (congrArg _ ((pf_n (by decide +kernel)).trans (congrArg _ ((pf_n (by decide +kernel)).trans (congrArg _ ((pf_n (by decide +kernel)).trans (congrArg _ ((pf_n (by decide +kernel)).trans (congrArg _ ((pf_n (by decide +kernel)).trans (congrArg _ (pf_h))))))))))))))
def deskF (v0 : V) : List (Str × V) := [("lender", v0)]
theorem deskF_lender {v0 : V} : (deskF v0).lookup ("lender" : Str) = some v0 := lk_h
theorem deskF_m_respond {v0 : V} : (deskF v0).lookup ("respond" : Str) = none := (lk_n (by decide +kernel)).trans (rfl)
theorem deskF_m_begin {v0 : V} : (deskF v0).lookup ("begin" : Str) = none := (lk_n (by decide +kernel)).trans (rfl)
theorem deskF_m_take {v0 : V} : (deskF v0).lookup ("take" : Str) = none := (lk_n (by decide +kernel)).trans (rfl)
theorem deskF_b0 {v0 : V} : putF "lender" v0 ([] : List (Str × V)) = [(("lender" : Str), v0)] := rfl
theorem deskF_p_lender {v0 y : V} : putF "lender" y (deskF v0) = deskF y := pf_h
/-! ### what the top has written -/
def lenTab : List (Nat × Nat × Nat) := [(50, 4, 4), (51, 4, 4), (53, 1, 1), (54, 4, 4), (55, 1, 255), (57, 2, 2), (61, 2, 32)]
def lenK (ts : List Addr) : List (Key × V) := List.zipWith (fun x p => ((Sum.inl (x.1 : Int) : Key), V.ref p)) lenTab ts
structure Txt (P : Program) (w : World) (K : PySem.W.Frag) (mg : Str → Option Value) (base : Heap) (a : Ad) : Prop where
  lens : ∃ ts : List Addr, ts.length = 7 ∧ KDI K P w a.kLENGTHS (lenK ts) ∧ ∀ (i : Nat) (p : Addr) (x : Nat × Nat × Nat), ts[i]? = some p → lenTab[i]? = some x → ∀ H : Hp, SqT K H p [.int (x.2.1 : Int), .int (x.2.2 : Int)]
  c_Place : Cls K a.cPlace
  k_Place : Mk K a.cPlace a.f_pInit
  g_Place : mg "Place" = some (.ref a.cPlace)
  n_Place_address : NoAttr K a.cPlace "address"
  n_Place_state : NoAttr K a.cPlace "state"
  n_Place_till : NoAttr K a.cPlace "till"
  n_Place_owner : NoAttr K a.cPlace "owner"
  c_Message : Cls K a.cMessage
  k_Message : Mk K a.cMessage a.f_mInit
  g_Message : mg "Message" = some (.ref a.cMessage)
  n_Message_number : NoAttr K a.cMessage "number"
  n_Message_flags : NoAttr K a.cMessage "flags"
  n_Message_client : NoAttr K a.cMessage "client"
  n_Message_relay : NoAttr K a.cMessage "relay"
  n_Message_machine : NoAttr K a.cMessage "machine"
  n_Message_kind : NoAttr K a.cMessage "kind"
  n_Message_wanted : NoAttr K a.cMessage "wanted"
  n_Message_server : NoAttr K a.cMessage "server"
  n_Message_identifier : NoAttr K a.cMessage "identifier"
  n_Message_who : NoAttr K a.cMessage "who"
  c_Lender : Cls K a.cLender
  k_Lender : Mk K a.cLender a.f_lInit
  g_Lender : mg "Lender" = some (.ref a.cLender)
  n_Lender_net : NoAttr K a.cLender "net"
  n_Lender_now : NoAttr K a.cLender "now"
  n_Lender_places : NoAttr K a.cLender "places"
  c_Net : Cls K a.cNet
  k_Net : Mk K a.cNet a.f_nInit
  g_Net : mg "Net" = some (.ref a.cNet)
  n_Net_server : NoAttr K a.cNet "server"
  n_Net_mask : NoAttr K a.cNet "mask"
  n_Net_way_out : NoAttr K a.cNet "way_out"
  n_Net_names : NoAttr K a.cNet "names"
  n_Net_first : NoAttr K a.cNet "first"
  n_Net_how_many : NoAttr K a.cNet "how_many"
  n_Net_how_long : NoAttr K a.cNet "how_long"
  n_Net_last : NoAttr K a.cNet "last"
  c_Desk : Cls K a.cDesk
  k_Desk : Mk K a.cDesk a.f_dInit
  g_Desk : mg "Desk" = some (.ref a.cDesk)
  n_Desk_lender : NoAttr K a.cDesk "lender"
  F_pInit : Fun K "__init__" "Place.__init__" s_pInit a.f_pInit a.d_pInit
  B_pInit : Binds K a.d_pInit ["self", "address"] []
  F_turn : Fun K "turn" "Place.turn" s_turn a.f_turn a.d_turn
  B_turn : Binds K a.d_turn ["self", "state", "till", "owner"] []
  M_turn : Meth K a.cPlace "turn" a.f_turn
  F_freeAt : Fun K "is_free_at" "Place.is_free_at" s_freeAt a.f_freeAt a.d_freeAt
  B_freeAt : Binds K a.d_freeAt ["self", "now"] []
  M_freeAt : Meth K a.cPlace "is_free_at" a.f_freeAt
  F_ownOf : Fun K "is_own_of" "Place.is_own_of" s_ownOf a.f_ownOf a.d_ownOf
  B_ownOf : Binds K a.d_ownOf ["self", "who"] []
  M_ownOf : Meth K a.cPlace "is_own_of" a.f_ownOf
  F_ownAmong : Fun K "own_among" "own_among" s_ownAmong a.f_ownAmong a.d_ownAmong
  B_ownAmong : Binds K a.d_ownAmong ["places", "who"] []
  g_ownAmong : mg "own_among" = some (.ref a.f_ownAmong)
  F_oldest : Fun K "oldest_free" "oldest_free" s_oldest a.f_oldest a.d_oldest
  B_oldest : Binds K a.d_oldest ["places", "now"] []
  g_oldest : mg "oldest_free" = some (.ref a.f_oldest)
  F_numberOf : Fun K "number_of" "number_of" s_numberOf a.f_numberOf a.d_numberOf
  B_numberOf : Binds K a.d_numberOf ["digits"] []
  g_numberOf : mg "number_of" = some (.ref a.f_numberOf)
  F_addressIn : Fun K "address_in" "address_in" s_addressIn a.f_addressIn a.d_addressIn
  B_addressIn : Binds K a.d_addressIn ["options", "number"] []
  g_addressIn : mg "address_in" = some (.ref a.f_addressIn)
  F_mInit : Fun K "__init__" "Message.__init__" s_mInit a.f_mInit a.d_mInit
  B_mInit : Binds K a.d_mInit ["self", "packet", "options"] []
  F_areRight : Fun K "are_right" "are_right" s_areRight a.f_areRight a.d_areRight
  B_areRight : Binds K a.d_areRight ["options"] []
  g_areRight : mg "are_right" = some (.ref a.f_areRight)
  F_readOptions : Fun K "read_options" "read_options" s_readOptions a.f_readOptions a.d_readOptions
  B_readOptions : Binds K a.d_readOptions ["packet"] []
  g_readOptions : mg "read_options" = some (.ref a.f_readOptions)
  F_readMessage : Fun K "read_message" "read_message" s_readMessage a.f_readMessage a.d_readMessage
  B_readMessage : Binds K a.d_readMessage ["packet"] []
  g_readMessage : mg "read_message" = some (.ref a.f_readMessage)
  F_addressFor : Fun K "address_for" "address_for" s_addressFor a.f_addressFor a.d_addressFor
  B_addressFor : Binds K a.d_addressFor ["message", "kind", "given"] []
  g_addressFor : mg "address_for" = some (.ref a.f_addressFor)
  F_fourBytes : Fun K "four_bytes" "four_bytes" s_fourBytes a.f_fourBytes a.d_fourBytes
  B_fourBytes : Binds K a.d_fourBytes ["number"] []
  g_fourBytes : mg "four_bytes" = some (.ref a.f_fourBytes)
  F_header : Fun K "header" "header" s_header a.f_header a.d_header
  B_header : Binds K a.d_header ["message", "kind", "given"] []
  g_header : mg "header" = some (.ref a.f_header)
  F_numberOption : Fun K "number_option" "number_option" s_numberOption a.f_numberOption a.d_numberOption
  B_numberOption : Binds K a.d_numberOption ["option", "number"] []
  g_numberOption : mg "number_option" = some (.ref a.f_numberOption)
  F_optionsOf : Fun K "options_of" "options_of" s_optionsOf a.f_optionsOf a.d_optionsOf
  B_optionsOf : Binds K a.d_optionsOf ["net", "message", "kind", "given"] []
  g_optionsOf : mg "options_of" = some (.ref a.f_optionsOf)
  F_portFor : Fun K "port_for" "port_for" s_portFor a.f_portFor a.d_portFor
  B_portFor : Binds K a.d_portFor ["message"] []
  g_portFor : mg "port_for" = some (.ref a.f_portFor)
  F_reply : Fun K "reply" "reply" s_reply a.f_reply a.d_reply
  B_reply : Binds K a.d_reply ["net", "message", "kind", "given"] []
  g_reply : mg "reply" = some (.ref a.f_reply)
  F_lInit : Fun K "__init__" "Lender.__init__" s_lInit a.f_lInit a.d_lInit
  B_lInit : Binds K a.d_lInit ["self", "net"] []
  F_tick : Fun K "tick" "Lender.tick" s_tick a.f_tick a.d_tick
  B_tick : Binds K a.d_tick ["self", "seconds"] []
  M_tick : Meth K a.cLender "tick" a.f_tick
  F_lends : Fun K "lends" "Net.lends" s_lends a.f_lends a.d_lends
  B_lends : Binds K a.d_lends ["self", "address"] []
  M_lends : Meth K a.cNet "lends" a.f_lends
  F_placeAt : Fun K "place_at" "Lender.place_at" s_placeAt a.f_placeAt a.d_placeAt
  B_placeAt : Binds K a.d_placeAt ["self", "address"] []
  M_placeAt : Meth K a.cLender "place_at" a.f_placeAt
  F_look : Fun K "look" "Lender.look" s_look a.f_look a.d_look
  B_look : Binds K a.d_look ["self", "address"] []
  M_look : Meth K a.cLender "look" a.f_look
  F_ownAt : Fun K "own_at" "Lender.own_at" s_ownAt a.f_ownAt a.d_ownAt
  B_ownAt : Binds K a.d_ownAt ["self", "address", "who"] []
  M_ownAt : Meth K a.cLender "own_at" a.f_ownAt
  F_decline : Fun K "decline" "Lender.decline" s_decline a.f_decline a.d_decline
  B_decline : Binds K a.d_decline ["self", "message"] []
  M_decline : Meth K a.cLender "decline" a.f_decline
  F_choose : Fun K "choose" "Lender.choose" s_choose a.f_choose a.d_choose
  B_choose : Binds K a.d_choose ["self", "message"] []
  M_choose : Meth K a.cLender "choose" a.f_choose
  F_discover : Fun K "discover" "Lender.discover" s_discover a.f_discover a.d_discover
  B_discover : Binds K a.d_discover ["self", "message"] []
  M_discover : Meth K a.cLender "discover" a.f_discover
  F_release : Fun K "release" "Lender.release" s_release a.f_release a.d_release
  B_release : Binds K a.d_release ["self", "message"] []
  M_release : Meth K a.cLender "release" a.f_release
  F_deny : Fun K "deny" "Lender.deny" s_deny a.f_deny a.d_deny
  B_deny : Binds K a.d_deny ["self", "message"] []
  M_deny : Meth K a.cLender "deny" a.f_deny
  F_lend : Fun K "lend" "Lender.lend" s_lend a.f_lend a.d_lend
  B_lend : Binds K a.d_lend ["self", "place", "message"] []
  M_lend : Meth K a.cLender "lend" a.f_lend
  F_reqAgain : Fun K "request_again" "Lender.request_again" s_reqAgain a.f_reqAgain a.d_reqAgain
  B_reqAgain : Binds K a.d_reqAgain ["self", "message"] []
  M_reqAgain : Meth K a.cLender "request_again" a.f_reqAgain
  F_sharesNet : Fun K "shares_net" "Net.shares_net" s_sharesNet a.f_sharesNet a.d_sharesNet
  B_sharesNet : Binds K a.d_sharesNet ["self", "address"] []
  M_sharesNet : Meth K a.cNet "shares_net" a.f_sharesNet
  F_reqKnown : Fun K "request_known" "Lender.request_known" s_reqKnown a.f_reqKnown a.d_reqKnown
  B_reqKnown : Binds K a.d_reqKnown ["self", "message"] []
  M_reqKnown : Meth K a.cLender "request_known" a.f_reqKnown
  F_reqOffered : Fun K "request_offered" "Lender.request_offered" s_reqOffered a.f_reqOffered a.d_reqOffered
  B_reqOffered : Binds K a.d_reqOffered ["self", "message"] []
  M_reqOffered : Meth K a.cLender "request_offered" a.f_reqOffered
  F_takeBack : Fun K "take_back" "Lender.take_back" s_takeBack a.f_takeBack a.d_takeBack
  B_takeBack : Binds K a.d_takeBack ["self", "who"] []
  M_takeBack : Meth K a.cLender "take_back" a.f_takeBack
  F_request : Fun K "request" "Lender.request" s_request a.f_request a.d_request
  B_request : Binds K a.d_request ["self", "message"] []
  M_request : Meth K a.cLender "request" a.f_request
  F_handle : Fun K "handle" "Lender.handle" s_handle a.f_handle a.d_handle
  B_handle : Binds K a.d_handle ["self", "message"] []
  M_handle : Meth K a.cLender "handle" a.f_handle
  F_nInit : Fun K "__init__" "Net.__init__" s_nInit a.f_nInit a.d_nInit
  B_nInit : Binds K a.d_nInit ["self", "numbers"] []
  F_isMask : Fun K "is_mask" "is_mask" s_isMask a.f_isMask a.d_isMask
  B_isMask : Binds K a.d_isMask ["mask"] []
  g_isMask : mg "is_mask" = some (.ref a.f_isMask)
  F_isRight : Fun K "is_right" "Net.is_right" s_isRight a.f_isRight a.d_isRight
  B_isRight : Binds K a.d_isRight ["self"] []
  M_isRight : Meth K a.cNet "is_right" a.f_isRight
  F_dInit : Fun K "__init__" "Desk.__init__" s_dInit a.f_dInit a.d_dInit
  B_dInit : Binds K a.d_dInit ["self"] []
  F_begin : Fun K "begin" "Desk.begin" s_begin a.f_begin a.d_begin
  B_begin : Binds K a.d_begin ["self", "numbers"] []
  M_begin : Meth K a.cDesk "begin" a.f_begin
  F_take : Fun K "take" "Desk.take" s_take a.f_take a.d_take
  B_take : Binds K a.d_take ["self", "packet"] []
  M_take : Meth K a.cDesk "take" a.f_take
  F_respond : Fun K "respond" "Desk.respond" s_respond a.f_respond a.d_respond
  B_respond : Binds K a.d_respond ["self", "call", "given"] []
  M_respond : Meth K a.cDesk "respond" a.f_respond
  F_answers : Fun K "answers" "answers" s_answers a.f_answers a.d_answers
  B_answers : Binds K a.d_answers ["calls"] []
  g_answers : mg "answers" = some (.ref a.f_answers)
  g_FREE : ∃ t, mg "FREE" = some (.int 0 t)
  g_OFFERED : ∃ t, mg "OFFERED" = some (.int 1 t)
  g_LENT : ∃ t, mg "LENT" = some (.int 2 t)
  g_REFUSED : ∃ t, mg "REFUSED" = some (.int 3 t)
  g_COOKIE_AT : ∃ t, mg "COOKIE_AT" = some (.int 236 t)
  g_OPTIONS_AT : ∃ t, mg "OPTIONS_AT" = some (.int 240 t)
  g_SMALLEST : ∃ t, mg "SMALLEST" = some (.int 244 t)
  g_LARGEST : ∃ t, mg "LARGEST" = some (.int 576 t)
  g_FILLING : ∃ t, mg "FILLING" = some (.int 0 t)
  g_WANTED : ∃ t, mg "WANTED" = some (.int 50 t)
  g_OVERLOAD : ∃ t, mg "OVERLOAD" = some (.int 52 t)
  g_KIND : ∃ t, mg "KIND" = some (.int 53 t)
  g_SERVER : ∃ t, mg "SERVER" = some (.int 54 t)
  g_IDENTIFIER : ∃ t, mg "IDENTIFIER" = some (.int 61 t)
  g_END : ∃ t, mg "END" = some (.int 255 t)
  g_OFFER : ∃ t, mg "OFFER" = some (.int 2 t)
  g_ACK : ∃ t, mg "ACK" = some (.int 5 t)
  g_NAK : ∃ t, mg "NAK" = some (.int 6 t)
  g_EVERYBODY : ∃ t, mg "EVERYBODY" = some (.int 4294967295 t)
  g_BROADCAST_FLAGS : ∃ t, mg "BROADCAST_FLAGS" = some (.int 32768 t)
  g_RELAY_PORT : ∃ t, mg "RELAY_PORT" = some (.int 67 t)
  g_CLIENT_PORT : ∃ t, mg "CLIENT_PORT" = some (.int 68 t)
  g_LEAST_BYTES : ∃ t, mg "LEAST_BYTES" = some (.int 300 t)
  g_DISCOVER : ∃ t, mg "DISCOVER" = some (.int 1 t)
  g_REQUEST : ∃ t, mg "REQUEST" = some (.int 3 t)
  g_DECLINE : ∃ t, mg "DECLINE" = some (.int 4 t)
  g_RELEASE : ∃ t, mg "RELEASE" = some (.int 7 t)
  g_INFORM : ∃ t, mg "INFORM" = some (.int 8 t)
  g_OFFER_SECONDS : ∃ t, mg "OFFER_SECONDS" = some (.int 60 t)
  g_REFUSED_SECONDS : ∃ t, mg "REFUSED_SECONDS" = some (.int 600 t)
  g_ALL_ONES : ∃ t, mg "ALL_ONES" = some (.int 4294967295 t)
  g_MOST_PLACES : ∃ t, mg "MOST_PLACES" = some (.int 256 t)
  g_SHORTEST_LOAN : ∃ t, mg "SHORTEST_LOAN" = some (.int 60 t)
  g_LONGEST_LOAN : ∃ t, mg "LONGEST_LOAN" = some (.int 31536000 t)
  g_OPEN : ∃ t, mg "OPEN" = some (.int 0 t)
  g_PACKET : ∃ t, mg "PACKET" = some (.int 1 t)
  g_TICK : ∃ t, mg "TICK" = some (.int 2 t)
  g_MOST_BYTES : ∃ t, mg "MOST_BYTES" = some (.int 1500 t)
  g_COOKIE : mg "COOKIE" = some (.ref a.kCOOKIE)
  g_LENGTHS : mg "LENGTHS" = some (.ref a.kLENGTHS)
  b_len : mg "len" = none
  b_max : mg "max" = none
  b_any : mg "any" = none
  b_list : mg "list" = none
  b_min : mg "min" = none
  b_range : mg "range" = none
  cookie : ∀ H : Hp, SqT K H a.kCOOKIE ([99, 130, 83, 99].map fun n : Nat => V.int (n : Int))
  tab : LamX.TabB base mg a.cOld a.pTab
  oldC : ∃ (oc : Value) (od : Option Addr) (kV doc pm : Value) (an : Option Addr) (ct : Value) (osl : Array (Option Value)),
    a.d_oldest = PySem.W.fnOf "oldest_free" "oldest_free" (defArgs s_oldest) (defBody s_oldest) (defScope s_oldest) .none kV doc pm an (.ref a.cOld) ct ∧ K.lookup a.f_oldest = some ⟨oc, od, .func a.d_oldest, osl⟩ ∧ PySem.W.codeIn K (.ref a.cOld) "oldest_free" = true
end Lp
namespace Lp
open PySem PySem.Spec PyProof.Rows L2 Evl
/-! ### data -/
def iv (l : List Nat) : List V := l.map fun n : Nat => V.int (n : Int)
def zv (l : List Int) : List V := l.map V.int
theorem iv_len (l : List Nat) : (iv l).length = l.length := List.length_map ..
theorem iv_app (x y : List Nat) : iv (x ++ y) = iv x ++ iv y := List.map_append ..
theorem iv_get {l : List Nat} {i n : Nat} (h : l[i]? = some n) : (iv l)[i]? = some (V.int (n : Int)) := by
  unfold iv
  rw [List.getElem?_map, h]
  rfl
def oi : Option Nat → V
  | none => .non
  | some n => .int (n : Int)
def freeL (now : Nat) (l : Sd22.Lease) : Bool := l.state == 0 || decide (l.until_ ≤ now)
def ownIx (L : List Sd22.Lease) (who : Sd22.Bytes) : Option Nat := L.findIdx? fun l => l.who == who
def optOf (o : List (Nat × Sd22.Bytes)) (c : Nat) : Option Sd22.Bytes := (o.find? fun x => x.1 == c).map fun x => x.2
def B256 (l : List Nat) : Prop := ∀ x ∈ l, x < 256
def W32 (n : Nat) : Prop := n < 4294967296
/-! ### the heap -/
abbrev Kept (p : Addr) (H H' : Hp) : Prop := ∀ b o, H b = some o → b ≠ p → H' b = some o
/-- what a change of such instances (by their first field) leaves -/
def stays (T : List Str) : HO → Prop
  | .ins _ _ ((k, _) :: _) => k ∉ T
  | .tbl _ => False
  | _ => True
abbrev FrX (T : List Str) (H H' : Hp) : Prop := ∀ b o, H b = some o → stays T o → H' b = some o
def PlaceAt (a : Ad) (H : Hp) (p : Addr) (ad : Int) (ls : Sd22.Lease) : Prop :=
  ∃ dx o, H p = some (.ins a.cPlace dx (placeF (.int ad) (.int ls.state) (.int ls.until_) (.ref o))) ∧ H o = some (.lst (iv ls.who))
/-- just made: its owner's list is new -/
def PlaceNew (a : Ad) (H0 H : Hp) (p : Addr) (ad : Int) : Prop :=
  ∃ dx o, H0 o = none ∧ H p = some (.ins a.cPlace dx (placeF (.int ad) (.int 0) (.int 0) (.ref o))) ∧ H o = some (.lst [])
def NetAt (a : Ad) (H : Hp) (n : Addr) (N : Sd22.Net) : Prop :=
  ∃ dx, H n = some (.ins a.cNet dx (netF (.int N.server) (.int N.mask) (.int N.router) (.int N.names) (.int N.first) (.int N.count) (.int N.time) (.int ((N.first : Int) + N.count - 1))))
/-- option 61's value in an object -/
def IdAt (H : Hp) (v : V) : Option Sd22.Bytes → Prop
  | none => v = .non
  | some b => ∃ l, v = .ref l ∧ H l = some (.lst (iv b))
def MsgAt (a : Ad) (H : Hp) (m : Addr) (p : Sd22.Packet) : Prop :=
  ∃ dx ln lf lm lw v, H m = some (.ins a.cMessage dx (messageF (.ref ln) (.ref lf) (.int p.client) (.int p.relay) (.ref lm) (.int p.kind) (oi p.wanted) (oi p.server) v (.ref lw))) ∧
    H ln = some (.lst (iv p.xid)) ∧ H lf = some (.lst (iv (Sd22.be 2 p.flags))) ∧ H lm = some (.lst (iv p.machine)) ∧ IdAt H v (p.opt 61) ∧ H lw = some (.lst (iv p.who))
structure MsgOk (p : Sd22.Packet) : Prop where
  xid : p.xid.length = 4
  flags : p.flags < 65536
  machine : p.machine.length = 16
  client : W32 p.client
  relay : W32 p.relay
  wanted : ∀ x, p.wanted = some x → W32 x
  server : ∀ x, p.server = some x → W32 x
  ident : ∀ b, p.opt 61 = some b → b.length ≤ 32
  who : p.who ≠ []
  whoLen : p.who.length ≤ 32
def PlacesAt (a : Ad) (H : Hp) (l : Addr) (as : List Addr) (f : Nat) (L : List Sd22.Lease) : Prop :=
  H l = some (.lst (as.map V.ref)) ∧ as.length = L.length ∧ as.length ≤ 256 ∧ ∀ (j : Nat) (p : Addr) (ls : Sd22.Lease), as[j]? = some p → L[j]? = some ls → PlaceAt a H p ((f : Int) + j) ls
def qOld : Str := "oldest_free.<locals>.<lambda>"
abbrev TabAt (a : Ad) (H : Hp) : Prop := LamX.TabS H a.pTab qOld
structure NetOk (N : Sd22.Net) : Prop where
  server : W32 N.server
  server0 : N.server ≠ 0
  mask : W32 N.mask
  router : W32 N.router
  names : W32 N.names
  first0 : N.first ≠ 0
  count1 : 1 ≤ N.count
  count2 : N.count ≤ 256
  last : N.first + N.count ≤ 4294967296
  time1 : 60 ≤ N.time
  time2 : N.time ≤ 31536000
structure Good (A : Sd22.Abs) : Prop where
  net : NetOk A.net
  len : A.leases.length = A.net.count
  refused : ∀ l ∈ A.leases, l.state = 3 → l.who = []
  state : ∀ l ∈ A.leases, l.state ≤ 3
  wlen : ∀ l ∈ A.leases, l.who.length ≤ 32
  one : ∀ (i j : Nat) (x y : Sd22.Lease), A.leases[i]? = some x → A.leases[j]? = some y → x.who = y.who → x.who ≠ [] → i = j
def LenderAt (a : Ad) (H : Hp) (d : Addr) (as : List Addr) (A : Sd22.Abs) : Prop :=
  TabAt a H ∧ as.Nodup ∧ ∃ dx n l, H d = some (.ins a.cLender dx (lenderF (.ref n) (.int A.now) (.ref l))) ∧ NetAt a H n A.net ∧ PlacesAt a H l as A.net.first A.leases
def DeskAt (a : Ad) (H : Hp) (d : Addr) (o : Option Sd22.Abs) : Prop :=
  TabAt a H ∧ ∃ dx v, H d = some (.ins a.cDesk dx (deskF v)) ∧ match o with
    | none => v = .non
    | some A => ∃ l as, v = .ref l ∧ LenderAt a H l as A ∧ Good A
def zipKV (o : List (Nat × Sd22.Bytes)) (as : List Addr) : List (Key × V) := List.zipWith (fun o p => ((Sum.inl (o.1 : Int) : Key), V.ref p)) o as
def OptsAt (H : Hp) (d : Addr) (o : List (Nat × Sd22.Bytes)) : Prop :=
  ∃ as : List Addr, as.length = o.length ∧ H d = some (.dK (zipKV o as)) ∧ ∀ (i : Nat) (x : Nat × Sd22.Bytes) (p : Addr), o[i]? = some x → as[i]? = some p → H p = some (.lst (iv x.2))
/-! ### answers of single defs, in plain words -/
def oldIx (L : List Sd22.Lease) (now : Nat) : Option Nat :=
  let ix := (List.range L.length).filter fun i => freeL now (L.getD i Sd22.none_)
  match ix.find? fun i => (L.getD i Sd22.none_).who == [] with
  | some i => some i
  | none => ix.foldl (fun (m : Option Nat) i => match m with
    | none => some i
    | some j => if (L.getD i Sd22.none_).until_ < (L.getD j Sd22.none_).until_ then some i else some j) none
def atIx (as : List Addr) : Option Nat → V
  | none => .non
  | some i => .ref (as.getD i 0)
def rightO (o : List (Nat × Sd22.Bytes)) : Bool := Sd22.fine o && (o.find? fun x => x.1 == 53).isSome
def optsB (N : Sd22.Net) (p : Sd22.Packet) (kind given : Nat) : Sd22.Bytes :=
  [53, 1, kind] ++ (54 :: 4 :: Sd22.be 4 N.server) ++ (if given = 0 then [] else (51 :: 4 :: Sd22.be 4 N.time) ++ (58 :: 4 :: Sd22.be 4 (N.time / 2)) ++ (59 :: 4 :: Sd22.be 4 (N.time / 8 * 7))) ++
    (if kind = 6 then [] else (1 :: 4 :: Sd22.be 4 N.mask) ++ (3 :: 4 :: Sd22.be 4 N.router) ++ (6 :: 4 :: Sd22.be 4 N.names)) ++ (match p.opt 61 with
      | none => []
      | some b => 61 :: b.length :: b) ++ [255]
def headB (p : Sd22.Packet) (kind given : Nat) : Sd22.Bytes :=
  [2, 1, 6, 0] ++ p.xid ++ [0, 0] ++ Sd22.be 2 p.flags ++ (Sd22.be 4 (if kind = 5 then p.client else 0) ++ Sd22.be 4 given ++ Sd22.be 4 0 ++ Sd22.be 4 p.relay) ++ p.machine ++ List.replicate 192 0 ++ [99, 130, 83, 99]
def bytesB (N : Sd22.Net) (p : Sd22.Packet) (kind given : Nat) : Sd22.Bytes :=
  let b := headB p kind given ++ optsB N p kind given
  b ++ List.replicate (300 - b.length) 0
def ansB (N : Sd22.Net) (p : Sd22.Packet) (kind given : Nat) : List Nat :=
  (bytesB N p kind given).length :: (Sd22.aim p kind given).1 :: (Sd22.aim p kind given).2 :: bytesB N p kind given
def netOf (l : List Nat) : Sd22.Net := ⟨l.getD 0 0, l.getD 1 0, l.getD 2 0, l.getD 3 0, l.getD 4 0, l.getD 5 0, l.getD 6 0⟩
def maskB (m : Nat) : Bool := (List.range 33).any fun k => m == 2 ^ 32 - 2 ^ k
def rightN (l : List Nat) : Bool := (Sd22.net l).isSome
/-- what an answer of handle says -/
def saidL : Sd22.Said → List Nat
  | none => [0]
  | some r => r.1.length :: r.2.1 :: r.2.2 :: r.1
def ansL (x : Sd22.Ans) : List Int := x.value :: (Sd22Neutral.ints x.told ++ Sd22Neutral.ints x.out)

def sp_pInit (K : PySem.W.Frag) (P : Program) (w : World) (a : Ad) : Sp := fun vs H Q _ => ∃ p dx ad, vs = [.ref p, .int ad] ∧ H p = some (.ins a.cPlace dx []) ∧ ∀ H', PlaceNew a H H' p ad → Kept p H H' → Q .non H'
def sp_turn (K : PySem.W.Frag) (P : Program) (w : World) (a : Ad) : Sp := fun vs H Q _ => ∃ p ad ls st t o who, vs = [.ref p, .int ((st : Nat) : Int), .int ((t : Nat) : Int), .ref o] ∧ PlaceAt a H p ad ls ∧ H o = some (.lst (iv who)) ∧ ∀ H', PlaceAt a H' p ad ⟨st, t, who⟩ → Kept p H H' → Q .non H'
def sp_freeAt (K : PySem.W.Frag) (P : Program) (w : World) (a : Ad) : Sp := fun vs H Q _ => ∃ p ad ls now, vs = [.ref p, .int ((now : Nat) : Int)] ∧ PlaceAt a H p ad ls ∧ ∀ H', Ex H H' → Q (.bl (freeL now ls)) H'
def sp_ownOf (K : PySem.W.Frag) (P : Program) (w : World) (a : Ad) : Sp := fun vs H Q _ => ∃ p ad ls o who, vs = [.ref p, .ref o] ∧ PlaceAt a H p ad ls ∧ H o = some (.lst (iv who)) ∧ ∀ H', Ex H H' → Q (.bl (ls.who == who)) H'
def sp_ownAmong (K : PySem.W.Frag) (P : Program) (w : World) (a : Ad) : Sp := fun vs H Q _ => ∃ l as f L o who, vs = [.ref l, .ref o] ∧ PlacesAt a H l as f L ∧ H o = some (.lst (iv who)) ∧ ∀ H', Ex H H' → Q (atIx as (ownIx L who)) H'
def sp_oldest (K : PySem.W.Frag) (P : Program) (w : World) (a : Ad) : Sp := fun vs H Q _ => ∃ l as f L now, vs = [.ref l, .int ((now : Nat) : Int)] ∧ PlacesAt a H l as f L ∧ TabAt a H ∧ ∀ H', LamX.ExtN H H' → TabAt a H' → Q (atIx as (oldIx L now)) H'
def sp_numberOf (K : PySem.W.Frag) (P : Program) (w : World) (a : Ad) : Sp := fun vs H Q _ => ∃ l bs, vs = [.ref l] ∧ H l = some (.lst (iv bs)) ∧ bs.length ≤ 4 ∧ B256 bs ∧ ∀ H', Ex H H' → Q (.int (Sd22.high bs : Nat)) H'
def sp_addressIn (K : PySem.W.Frag) (P : Program) (w : World) (a : Ad) : Sp := fun vs H Q _ => ∃ d c o, vs = [.ref d, .int ((c : Nat) : Int)] ∧ OptsAt H d o ∧ (∀ b, optOf o c = some b → b.length ≤ 4 ∧ B256 b) ∧ ∀ H', Ex H H' → Q (oi ((optOf o c).map Sd22.high)) H'
def sp_mInit (K : PySem.W.Frag) (P : Program) (w : World) (a : Ad) : Sp := fun vs H Q _ => ∃ m dx l d b p, vs = [.ref m, .ref l, .ref d] ∧ H m = some (.ins a.cMessage dx []) ∧ H l = some (.lst (iv b)) ∧ B256 b ∧ Sd22.read b = some p ∧ OptsAt H d p.opts ∧ ∀ H', MsgAt a H' m p → Kept m H H' → Q .non H'
def sp_readOptions (K : PySem.W.Frag) (P : Program) (w : World) (a : Ad) : Sp := fun vs H Q _ => ∃ l b, vs = [.ref l] ∧ H l = some (.lst (iv b)) ∧ 240 ≤ b.length ∧ b.length ≤ 576 ∧ B256 b ∧ (Sd22.options (b.length + 1) (b.drop 240) [] = none → ∀ H', Ex H H' → Q .non H') ∧ (∀ o, Sd22.options (b.length + 1) (b.drop 240) [] = some o → ∀ H' d, Ex H H' → OptsAt H' d o → Q (.ref d) H')
def sp_areRight (K : PySem.W.Frag) (P : Program) (w : World) (a : Ad) : Sp := fun vs H Q _ => ∃ d o, vs = [.ref d] ∧ OptsAt H d o ∧ (o.map (·.1)).Nodup ∧ ∀ H', Ex H H' → Q (.bl (rightO o)) H'
def sp_readMessage (K : PySem.W.Frag) (P : Program) (w : World) (a : Ad) : Sp := fun vs H Q _ => ∃ l b, vs = [.ref l] ∧ H l = some (.lst (iv b)) ∧ B256 b ∧ (Sd22.read b = none → ∀ H', Ex H H' → Q .non H') ∧ (∀ p, Sd22.read b = some p → ∀ H' m, Ex H H' → MsgAt a H' m p → Q (.ref m) H')
def sp_fourBytes (K : PySem.W.Frag) (P : Program) (w : World) (a : Ad) : Sp := fun vs H Q _ => ∃ n : Nat, vs = [.int (n : Int)] ∧ W32 n ∧ ∀ H' p, Ex H H' → H' p = some (.lst (iv (Sd22.be 4 n))) → Q (.ref p) H'
def sp_numberOption (K : PySem.W.Frag) (P : Program) (w : World) (a : Ad) : Sp := fun vs H Q _ => ∃ c n : Nat, vs = [.int (c : Int), .int (n : Int)] ∧ W32 n ∧ ∀ H' p, Ex H H' → H' p = some (.lst (iv (c :: 4 :: Sd22.be 4 n))) → Q (.ref p) H'
def sp_optionsOf (K : PySem.W.Frag) (P : Program) (w : World) (a : Ad) : Sp := fun vs H Q _ => ∃ n m N p, ∃ kind given : Nat, vs = [.ref n, .ref m, .int (kind : Int), .int (given : Int)] ∧ NetAt a H n N ∧ NetOk N ∧ MsgAt a H m p ∧ MsgOk p ∧ ∀ H' q, Ex H H' → H' q = some (.lst (iv (optsB N p kind given))) → Q (.ref q) H'
def sp_header (K : PySem.W.Frag) (P : Program) (w : World) (a : Ad) : Sp := fun vs H Q _ => ∃ m p, ∃ kind given : Nat, vs = [.ref m, .int (kind : Int), .int (given : Int)] ∧ MsgAt a H m p ∧ MsgOk p ∧ W32 given ∧ ∀ H' q, Ex H H' → H' q = some (.lst (iv (headB p kind given))) → Q (.ref q) H'
def sp_addressFor (K : PySem.W.Frag) (P : Program) (w : World) (a : Ad) : Sp := fun vs H Q _ => ∃ m p, ∃ kind given : Nat, vs = [.ref m, .int (kind : Int), .int (given : Int)] ∧ MsgAt a H m p ∧ MsgOk p ∧ ∀ H', Ex H H' → Q (.int ((Sd22.aim p kind given).1 : Nat)) H'
def sp_portFor (K : PySem.W.Frag) (P : Program) (w : World) (a : Ad) : Sp := fun vs H Q _ => ∃ m p, ∃ kind given : Nat, vs = [.ref m] ∧ MsgAt a H m p ∧ MsgOk p ∧ ∀ H', Ex H H' → Q (.int ((Sd22.aim p kind given).2 : Nat)) H'
def sp_reply (K : PySem.W.Frag) (P : Program) (w : World) (a : Ad) : Sp := fun vs H Q _ => ∃ n m N p, ∃ kind given : Nat, vs = [.ref n, .ref m, .int (kind : Int), .int (given : Int)] ∧ NetAt a H n N ∧ NetOk N ∧ MsgAt a H m p ∧ MsgOk p ∧ W32 given ∧ ∀ H' q, Ex H H' → H' q = some (.lst (iv (ansB N p kind given))) → Q (.ref q) H'
def sp_nInit (K : PySem.W.Frag) (P : Program) (w : World) (a : Ad) : Sp := fun vs H Q _ => ∃ n dx l ns, vs = [.ref n, .ref l] ∧ H n = some (.ins a.cNet dx []) ∧ H l = some (.lst (iv ns)) ∧ ns.length = 7 ∧ ∀ H', NetAt a H' n (netOf ns) → Kept n H H' → Q .non H'
def sp_lends (K : PySem.W.Frag) (P : Program) (w : World) (a : Ad) : Sp := fun vs H Q _ => ∃ n N, ∃ x : Nat, vs = [.ref n, .int (x : Int)] ∧ NetAt a H n N ∧ ∀ H', Ex H H' → Q (.bl (decide (N.first ≤ x ∧ x < N.first + N.count))) H'
def sp_sharesNet (K : PySem.W.Frag) (P : Program) (w : World) (a : Ad) : Sp := fun vs H Q _ => ∃ n N, ∃ x : Nat, vs = [.ref n, .int (x : Int)] ∧ NetAt a H n N ∧ ∀ H', Ex H H' → Q (.bl (Nat.land x N.mask == Nat.land N.server N.mask)) H'
def sp_isMask (K : PySem.W.Frag) (P : Program) (w : World) (a : Ad) : Sp := fun vs H Q _ => ∃ m : Nat, vs = [.int (m : Int)] ∧ W32 m ∧ ∀ H', Ex H H' → Q (.bl (maskB m)) H'
def sp_isRight (K : PySem.W.Frag) (P : Program) (w : World) (a : Ad) : Sp := fun vs H Q _ => ∃ n ns, vs = [.ref n] ∧ NetAt a H n (netOf ns) ∧ (∀ x ∈ ns, W32 x) ∧ ∀ H', Ex H H' → Q (.bl (rightN ns)) H'
def sp_lInit (K : PySem.W.Frag) (P : Program) (w : World) (a : Ad) : Sp := fun vs H Q _ => ∃ d dx n N, vs = [.ref d, .ref n] ∧ H d = some (.ins a.cLender dx []) ∧ NetAt a H n N ∧ NetOk N ∧ TabAt a H ∧ ∀ H' as, LenderAt a H' d as (Sd22.fresh N) → Kept d H H' → Q .non H'
def sp_tick (K : PySem.W.Frag) (P : Program) (w : World) (a : Ad) : Sp := fun vs H Q _ => ∃ d as A, ∃ t : Nat, vs = [.ref d, .int (t : Int)] ∧ LenderAt a H d as A ∧ ∀ H' q, H' q = some (.lst (zv (if t < A.now then [-1] else [0]))) → LenderAt a H' d as (if t < A.now then A else { A with now := t }) → FrX ["address", "net"] H H' → Q (.ref q) H'
def sp_look (K : PySem.W.Frag) (P : Program) (w : World) (a : Ad) : Sp := fun vs H Q _ => ∃ d as A, ∃ x : Nat, vs = [.ref d, .int (x : Int)] ∧ LenderAt a H d as A ∧ Good A ∧ ∀ H' q, H' q = some (.lst (zv (ansL (Sd22.step (some A) (.look x)).2))) → Ex H H' → Q (.ref q) H'
def sp_handle (K : PySem.W.Frag) (P : Program) (w : World) (a : Ad) : Sp := fun vs H Q _ => ∃ d as A m p, vs = [.ref d, .ref m] ∧ LenderAt a H d as A ∧ Good A ∧ MsgAt a H m p ∧ MsgOk p ∧ ∀ H' q, H' q = some (.lst (iv (saidL (Sd22.handle A p).2))) → LenderAt a H' d as (Sd22.handle A p).1 → FrX ["address", "net"] H H' → Q (.ref q) H'
def sp_discover (K : PySem.W.Frag) (P : Program) (w : World) (a : Ad) : Sp := fun vs H Q _ => ∃ d as A m p, vs = [.ref d, .ref m] ∧ LenderAt a H d as A ∧ Good A ∧ MsgAt a H m p ∧ MsgOk p ∧ p.kind = 1 ∧ ∀ H' q, H' q = some (.lst (iv (saidL (Sd22.handle A p).2))) → LenderAt a H' d as (Sd22.handle A p).1 → FrX ["address", "net"] H H' → Q (.ref q) H'
def sp_request (K : PySem.W.Frag) (P : Program) (w : World) (a : Ad) : Sp := fun vs H Q _ => ∃ d as A m p, vs = [.ref d, .ref m] ∧ LenderAt a H d as A ∧ Good A ∧ MsgAt a H m p ∧ MsgOk p ∧ p.kind = 3 ∧ ∀ H' q, H' q = some (.lst (iv (saidL (Sd22.handle A p).2))) → LenderAt a H' d as (Sd22.handle A p).1 → FrX ["address", "net"] H H' → Q (.ref q) H'
def sp_reqOffered (K : PySem.W.Frag) (P : Program) (w : World) (a : Ad) : Sp := fun vs H Q _ => ∃ d as A m p, vs = [.ref d, .ref m] ∧ LenderAt a H d as A ∧ Good A ∧ MsgAt a H m p ∧ MsgOk p ∧ p.kind = 3 ∧ p.server = some A.net.server ∧ ∀ H' q, H' q = some (.lst (iv (saidL (Sd22.handle A p).2))) → LenderAt a H' d as (Sd22.handle A p).1 → FrX ["address", "net"] H H' → Q (.ref q) H'
def sp_reqKnown (K : PySem.W.Frag) (P : Program) (w : World) (a : Ad) : Sp := fun vs H Q _ => ∃ d as A m p, vs = [.ref d, .ref m] ∧ LenderAt a H d as A ∧ Good A ∧ MsgAt a H m p ∧ MsgOk p ∧ p.kind = 3 ∧ p.server = none ∧ (∃ x, p.wanted = some x) ∧ ∀ H' q, H' q = some (.lst (iv (saidL (Sd22.handle A p).2))) → LenderAt a H' d as (Sd22.handle A p).1 → FrX ["address", "net"] H H' → Q (.ref q) H'
def sp_reqAgain (K : PySem.W.Frag) (P : Program) (w : World) (a : Ad) : Sp := fun vs H Q _ => ∃ d as A m p, vs = [.ref d, .ref m] ∧ LenderAt a H d as A ∧ Good A ∧ MsgAt a H m p ∧ MsgOk p ∧ p.kind = 3 ∧ p.server = none ∧ p.wanted = none ∧ ∀ H' q, H' q = some (.lst (iv (saidL (Sd22.handle A p).2))) → LenderAt a H' d as (Sd22.handle A p).1 → FrX ["address", "net"] H H' → Q (.ref q) H'
def sp_decline (K : PySem.W.Frag) (P : Program) (w : World) (a : Ad) : Sp := fun vs H Q _ => ∃ d as A m p, vs = [.ref d, .ref m] ∧ LenderAt a H d as A ∧ Good A ∧ MsgAt a H m p ∧ MsgOk p ∧ p.kind = 4 ∧ ∀ H', LenderAt a H' d as (Sd22.handle A p).1 → FrX ["address", "net"] H H' → Q .non H'
def sp_release (K : PySem.W.Frag) (P : Program) (w : World) (a : Ad) : Sp := fun vs H Q _ => ∃ d as A m p, vs = [.ref d, .ref m] ∧ LenderAt a H d as A ∧ Good A ∧ MsgAt a H m p ∧ MsgOk p ∧ p.kind = 7 ∧ ∀ H', LenderAt a H' d as (Sd22.handle A p).1 → FrX ["address", "net"] H H' → Q .non H'
def sp_placeAt (K : PySem.W.Frag) (P : Program) (w : World) (a : Ad) : Sp := fun vs H Q _ => ∃ d as A x, vs = [.ref d, oi x] ∧ LenderAt a H d as A ∧ Good A ∧ ∀ H', Ex H H' → Q (atIx as (x.bind A.place)) H'
def sp_ownAt (K : PySem.W.Frag) (P : Program) (w : World) (a : Ad) : Sp := fun vs H Q _ => ∃ d as A x o who, vs = [.ref d, oi x, .ref o] ∧ LenderAt a H d as A ∧ Good A ∧ H o = some (.lst (iv who)) ∧ ∀ H', Ex H H' → Q (atIx as ((x.bind A.place).filter fun i => (A.at_ i).who == who)) H'
def sp_choose (K : PySem.W.Frag) (P : Program) (w : World) (a : Ad) : Sp := fun vs H Q _ => ∃ d as A m p, vs = [.ref d, .ref m] ∧ LenderAt a H d as A ∧ Good A ∧ MsgAt a H m p ∧ MsgOk p ∧ ∀ H', LamX.ExtN H H' → LenderAt a H' d as A → Q (atIx as (A.choose p.who p.wanted)) H'
def sp_lend (K : PySem.W.Frag) (P : Program) (w : World) (a : Ad) : Sp := fun vs H Q _ => ∃ d as A i m p, vs = [.ref d, .ref (as.getD i 0), .ref m] ∧ i < A.net.count ∧ LenderAt a H d as A ∧ Good A ∧ MsgAt a H m p ∧ MsgOk p ∧ ∀ H' q, H' q = some (.lst (iv (saidL (Sd22.lend A p i).2))) → LenderAt a H' d as (Sd22.lend A p i).1 → FrX ["address", "net"] H H' → Q (.ref q) H'
def sp_deny (K : PySem.W.Frag) (P : Program) (w : World) (a : Ad) : Sp := fun vs H Q _ => ∃ d as A m p, vs = [.ref d, .ref m] ∧ LenderAt a H d as A ∧ Good A ∧ MsgAt a H m p ∧ MsgOk p ∧ ∀ H' q, H' q = some (.lst (iv (saidL (Sd22.refuse A p).2))) → Ex H H' → Q (.ref q) H'
def sp_takeBack (K : PySem.W.Frag) (P : Program) (w : World) (a : Ad) : Sp := fun vs H Q _ => ∃ d as A o who, vs = [.ref d, .ref o] ∧ LenderAt a H d as A ∧ Good A ∧ H o = some (.lst (iv who)) ∧ who ≠ [] ∧ ∀ H', LenderAt a H' d as { A with leases := A.leases.map fun l => if l.state = 1 ∧ l.who = who then { l with state := 0, until_ := A.now } else l } → FrX ["address", "net"] H H' → Q .non H'
def sp_dInit (K : PySem.W.Frag) (P : Program) (w : World) (a : Ad) : Sp := fun vs H Q _ => ∃ d dx, vs = [.ref d] ∧ H d = some (.ins a.cDesk dx []) ∧ TabAt a H ∧ ∀ H', DeskAt a H' d none → Kept d H H' → Q .non H'
def sp_begin (K : PySem.W.Frag) (P : Program) (w : World) (a : Ad) : Sp := fun vs H Q _ => ∃ d l o ns, vs = [.ref d, .ref l] ∧ DeskAt a H d o ∧ H l = some (.lst (iv ns)) ∧ ns.length = 7 ∧ (∀ x ∈ ns, W32 x) ∧ ∀ H' q, H' q = some (.lst (zv (ansL (Sd22.step o (.open_ ns)).2))) → DeskAt a H' d (Sd22.step o (.open_ ns)).1 → FrX ["address", "net", "lender"] H H' → Q (.ref q) H'
def sp_take (K : PySem.W.Frag) (P : Program) (w : World) (a : Ad) : Sp := fun vs H Q _ => ∃ d l A b, vs = [.ref d, .ref l] ∧ DeskAt a H d (some A) ∧ H l = some (.lst (iv b)) ∧ b.length ≤ 1500 ∧ B256 b ∧ ∀ H' q, H' q = some (.lst (zv (ansL (Sd22.step (some A) (.packet (some b))).2))) → DeskAt a H' d (Sd22.step (some A) (.packet (some b))).1 → FrX ["address", "net", "lender"] H H' → Q (.ref q) H'
/-- a call by its number and what is handed with it -/
def CallIs (c : Nat) (ns : List Nat) (x : Sd22.Call) : Prop :=
  (c = 0 ∧ ns.length = 7 ∧ (∀ y ∈ ns, W32 y) ∧ x = .open_ ns) ∨ (c = 1 ∧ ns.length ≤ 1500 ∧ B256 ns ∧ x = .packet (some ns)) ∨ (∃ t, c = 2 ∧ ns = [t] ∧ x = .tick t) ∨ (∃ t, c = 3 ∧ ns = [t] ∧ x = .look t)
def sp_respond (K : PySem.W.Frag) (P : Program) (w : World) (a : Ad) : Sp := fun vs H Q _ => ∃ d c l o ns x, vs = [.ref d, .int ((c : Nat) : Int), .ref l] ∧ DeskAt a H d o ∧ H l = some (.lst (iv ns)) ∧ CallIs c ns x ∧ ∀ H' q, H' q = some (.lst (zv (ansL (Sd22.step o x).2))) → DeskAt a H' d (Sd22.step o x).1 → FrX ["address", "net", "lender"] H H' → Q (.ref q) H'
def sp_answers (K : PySem.W.Frag) (P : Program) (w : World) (a : Ad) : Sp := fun vs H Q _ => ∃ l ns, vs = [.ref l] ∧ SqL K H l (zv ns) ∧ ns.length ≤ 30000 ∧ (∀ x ∈ ns, 0 ≤ x) ∧ PySd22.answers_asked ns = true ∧ TabAt a H ∧ ∀ H' q, H' q = some (.lst (zv (PySd22.answers ns))) → Q (.ref q) H'
end Lp
namespace Lp
open PySem PySem.Spec PyProof.Rows L2 Evl
/-! ### evaluation, further words -/
section
variable {K : PySem.W.Frag} {σ : L2.St} {H H' : Hp} {ta tb te : TE} {v x y z : V}
theorem ev_fld {p C dx : Addr} {fs : List (Str × V)} {f : Str} (h : Ev ta σ H (.ref p)) (o : H p = some (.ins C dx fs)) (c : Cls K C) (n : NoAttr K C f) (l : fs.lookup f = some v) : Ev (tFld K ta f) σ H v :=
  fun H1 e Q q => h H1 e _ fun H2 e2 => ⟨p, C, dx, fs, v, rfl, e2 _ _ (e _ _ o), c, n, l, q H2 e2⟩
theorem ev_meth {p C dx : Addr} {fs : List (Str × V)} {m : Str} {sp : Sp} {t : TA} {vs : List V} {E : XK} (h : Ev ta σ H (.ref p)) (o : H p = some (.ins C dx fs)) (l : fs.lookup m = none) (ha : EvA t σ H vs) (hs : SpV sp (.ref p :: (vs ++ [])) H z) :
    Ev (tMeth C m sp [] E ta t) σ H z :=
  fun H1 e Q q => h H1 e _ fun H2 e2 => ⟨p, dx, fs, rfl, e2 _ _ (e _ _ o), l, ha H2 (e.trans e2) _ fun H3 e3 => hs H3 ((e.trans e2).trans e3) Q (fun H4 e4 => q H4 ((e2.trans e3).trans e4)) E⟩
/-- gives a list, new or old -/
def EG (te : TE) (σ : L2.St) (H : Hp) (xs : List V) : Prop := ∀ H1, Ex H H1 → ∀ Q : VK, (∀ p H2, Ex H1 H2 → H2 p = some (.lst xs) → Q (.ref p) H2) → te σ H1 Q
theorem eg_new {xs : List V} (h : EvL te σ H xs) : EG te σ H xs := fun H1 e Q q => h H1 e Q fun p H2 _ e2 hp => q p H2 e2 hp
theorem eg_ref {l : Addr} {xs : List V} (h : Ev te σ H (.ref l)) (hl : H l = some (.lst xs)) : EG te σ H xs := fun H1 e Q q => h H1 e Q fun H2 e2 => q l H2 e2 (e2 _ _ (e _ _ hl))
theorem eg_cat {xs ys : List V} (ha : EG ta σ H xs) (hb : EG tb σ H ys) (hl : xs.length + ys.length ≤ 100000) : EG (tOp rCat ta tb) σ H (xs ++ ys) := fun H1 e Q q =>
  ha H1 e _ fun p H2 e2 hp => hb H2 (e.trans e2) _ fun r H3 e3 hr => ⟨p, r, xs, ys, rfl, rfl, e3 _ _ hp, hr, sz_of hl, fun u hu => q u _ ((e2.trans e3).trans (Ex.new hu)) upd_same⟩
theorem eg_rep {xs : List V} {k : Int} (ha : EG ta σ H xs) (hb : Ev tb σ H (.int k)) (h1 : -100000 ≤ k) (h2 : k ≤ 100000) (hl : xs.length * k.toNat ≤ 100000) : EG (tOp rRep ta tb) σ H (List.replicate k.toNat xs).flatten := fun H1 e Q q =>
  ha H1 e _ fun p H2 e2 hp => hb H2 (e.trans e2) _ fun H3 e3 => ⟨p, k, xs, rfl, rfl, e3 _ _ hp, by omega, by omega, sz_of hl, fun u hu => q u _ ((e2.trans e3).trans (Ex.new hu)) upd_same⟩
theorem eg_is {xs ys : List V} (h : EG te σ H xs) (e : xs = ys) : EG te σ H ys := e ▸ h
theorem eg_mono {xs : List V} (e : Ex H H') (h : EG te σ H xs) : EG te σ H' xs := fun H1 a Q q => h H1 (e.trans a) Q q
def SpG (sp : Sp) (vs : List V) (H : Hp) (xs : List V) : Prop := ∀ H1, Ex H H1 → ∀ Q : VK, (∀ p H2, Ex H1 H2 → H2 p = some (.lst xs) → Q (.ref p) H2) → ∀ E : XK, sp vs H1 Q E
theorem eg_call {sp : Sp} {t : TA} {vs xs : List V} {E : XK} (ha : EvA t σ H vs) (hs : SpG sp (vs ++ []) H xs) : EG (tCall sp [] E t) σ H xs := fun H1 e Q q =>
  ha H1 e _ fun H2 e2 => hs H2 (e.trans e2) Q (fun p H3 e3 hp => q p H3 (e2.trans e3) hp) E
theorem eg_meth {p C dx : Addr} {fs : List (Str × V)} {m : Str} {sp : Sp} {t : TA} {vs xs : List V} {E : XK} (h : Ev ta σ H (.ref p)) (o : H p = some (.ins C dx fs)) (l : fs.lookup m = none) (ha : EvA t σ H vs) (hs : SpG sp (.ref p :: (vs ++ [])) H xs) :
    EG (tMeth C m sp [] E ta t) σ H xs :=
  fun H1 e Q q => h H1 e _ fun H2 e2 => ⟨p, dx, fs, rfl, e2 _ _ (e _ _ o), l, ha H2 (e.trans e2) _ fun H3 e3 => hs H3 ((e.trans e2).trans e3) Q (fun r H4 e4 hr => q r H4 ((e2.trans e3).trans e4) hr) E⟩
theorem eg_tup {p : Addr} {xs : List V} (ha : Ev ta σ H (.ref p)) (h : ∀ H1, Ex H H1 → SqT K H1 p xs) : EG (tCB (rListS K) (tCons ta tNil)) σ H xs := fun H1 e Q q =>
  ha H1 e _ fun H2 e2 => ⟨p, xs, rfl, .inr (h H2 (e.trans e2)), fun l hl => q l _ (e2.trans (Ex.new hl)) upd_same⟩
/-- a call whose one argument is a list -/
theorem ev_call1L {sp : Sp} {xs : List V} {E : XK} (h : EG te σ H xs) (hs : ∀ p H1, Ex H H1 → H1 p = some (.lst xs) → SpV sp [.ref p] H1 z) : Ev (tCall sp [] E (tCons te tNil)) σ H z := fun H1 e Q q =>
  h H1 e _ fun p H2 e2 hp => hs p H2 (e.trans e2) hp H2 (Ex.refl _) Q (fun H3 e3 => q H3 (e2.trans e3)) E
theorem ev_lenG {xs : List V} (h : EG te σ H xs) : Ev (tCB (rLenS K) (tCons te tNil)) σ H (.int (xs.length : Int)) := fun H1 e Q q =>
  h H1 e _ fun p H2 e2 hp => ⟨p, xs, rfl, .inl (sq_of hp), q H2 e2⟩
theorem ev_isN (h : Ev ta σ H x) : Ev (tOp rIsN ta (tC .non)) σ H (.bl (decide (x = .non))) := ev_op h ev_c fun H1 _ Q q => ⟨rfl, q H1 (Ex.refl _)⟩
theorem ev_notN (h : Ev ta σ H x) : Ev (tOp rNotN ta (tC .non)) σ H (.bl (!decide (x = .non))) := ev_op h ev_c fun H1 _ Q q => ⟨rfl, q H1 (Ex.refl _)⟩
theorem ev_eq (ha : Ev ta σ H x) (hb : Ev tb σ H y) (h : scal x y = true) : Ev (tOp rEq ta tb) σ H (.bl (decide (x = y))) := ev_op ha hb (rv_eq h)
theorem ev_ne (ha : Ev ta σ H x) (hb : Ev tb σ H y) (h : scal x y = true) : Ev (tOp rNe ta tb) σ H (.bl (!decide (x = y))) := ev_op ha hb (rv_ne h)
theorem ev_I {g : Int → Int → V} {i j : Int} (ha : Ev ta σ H (.int i)) (hb : Ev tb σ H (.int j)) : Ev (tOp (rI0 g) ta tb) σ H (g i j) := ev_op ha hb rv_I0
theorem ev_IC {C : Int → Int → Prop} {g : Int → Int → V} {i j : Int} (ha : Ev ta σ H (.int i)) (hb : Ev tb σ H (.int j)) (h : C i j) : Ev (tOp (rI C g) ta tb) σ H (g i j) := ev_op ha hb (rv_I h)
theorem ev_chain {g g' : Int → Int → Bool} {tc : TE} {i j k : Int} (ha : Ev ta σ H (.int i)) (hb : Ev tb σ H (.int j)) (hc : Ev tc σ H (.int k)) :
    Ev (tChain (rI0 fun i j => .bl (g i j)) (rI0 fun i j => .bl (g' i j)) ta tb tc) σ H (.bl (g i j && g' j k)) := fun H1 e Q q =>
  ha H1 e _ fun H2 e2 => hb H2 (e.trans e2) _ fun H3 e3 => ⟨i, j, rfl, rfl, g i j, rfl, by
    cases h : g i j with
    | true =>
      rw [if_pos rfl]
      refine hc H3 ((e.trans e2).trans e3) _ fun H4 e4 => ⟨j, k, rfl, rfl, ?_⟩
      have z := q H4 ((e2.trans e3).trans e4)
      rw [h] at z
      exact z
    | false =>
      rw [if_neg Bool.false_ne_true]
      have z := q H3 (e2.trans e3)
      rw [h] at z
      exact z⟩
variable {D : Ends}
theorem s_retG {xs : List V} (h : EG te σ H xs) (k : ∀ p H1, Ex H H1 → H1 p = some (.lst xs) → D.rt (.ref p) H1) : tRet te D σ H := h H (Ex.refl H) _ k
theorem s_asgG {i : Nat} {xs : List V} (h : EG te σ H xs) (k : ∀ p H1, Ex H H1 → H1 p = some (.lst xs) → D.nx (σ.set i (some (.ref p))) H1) : tAsg te (gName i) D σ H := h H (Ex.refl H) _ fun p H1 e h1 => k p H1 e h1
end
/-! ### fields -/
section
variable {P : Program} {w : World} {K : PySem.W.Frag} {mg : Str → Option Value} {base : Heap} {a : Ad} {σ : L2.St} {H : Hp} {ta : TE} {p dx : Addr}
theorem ef_Place_address {v0 v1 v2 v3 : V} (T : Txt P w K mg base a) (h : Ev ta σ H (.ref p)) (o : H p = some (.ins a.cPlace dx (placeF v0 v1 v2 v3))) : Ev (tFld K ta "address") σ H v0 := ev_fld h o T.c_Place T.n_Place_address placeF_address
theorem ef_Place_state {v0 v1 v2 v3 : V} (T : Txt P w K mg base a) (h : Ev ta σ H (.ref p)) (o : H p = some (.ins a.cPlace dx (placeF v0 v1 v2 v3))) : Ev (tFld K ta "state") σ H v1 := ev_fld h o T.c_Place T.n_Place_state placeF_state
theorem ef_Place_till {v0 v1 v2 v3 : V} (T : Txt P w K mg base a) (h : Ev ta σ H (.ref p)) (o : H p = some (.ins a.cPlace dx (placeF v0 v1 v2 v3))) : Ev (tFld K ta "till") σ H v2 := ev_fld h o T.c_Place T.n_Place_till placeF_till
theorem ef_Place_owner {v0 v1 v2 v3 : V} (T : Txt P w K mg base a) (h : Ev ta σ H (.ref p)) (o : H p = some (.ins a.cPlace dx (placeF v0 v1 v2 v3))) : Ev (tFld K ta "owner") σ H v3 := ev_fld h o T.c_Place T.n_Place_owner placeF_owner
theorem ef_Message_number {v0 v1 v2 v3 v4 v5 v6 v7 v8 v9 : V} (T : Txt P w K mg base a) (h : Ev ta σ H (.ref p)) (o : H p = some (.ins a.cMessage dx (messageF v0 v1 v2 v3 v4 v5 v6 v7 v8 v9))) : Ev (tFld K ta "number") σ H v0 := ev_fld h o T.c_Message T.n_Message_number messageF_number
theorem ef_Message_flags {v0 v1 v2 v3 v4 v5 v6 v7 v8 v9 : V} (T : Txt P w K mg base a) (h : Ev ta σ H (.ref p)) (o : H p = some (.ins a.cMessage dx (messageF v0 v1 v2 v3 v4 v5 v6 v7 v8 v9))) : Ev (tFld K ta "flags") σ H v1 := ev_fld h o T.c_Message T.n_Message_flags messageF_flags
theorem ef_Message_client {v0 v1 v2 v3 v4 v5 v6 v7 v8 v9 : V} (T : Txt P w K mg base a) (h : Ev ta σ H (.ref p)) (o : H p = some (.ins a.cMessage dx (messageF v0 v1 v2 v3 v4 v5 v6 v7 v8 v9))) : Ev (tFld K ta "client") σ H v2 := ev_fld h o T.c_Message T.n_Message_client messageF_client
theorem ef_Message_relay {v0 v1 v2 v3 v4 v5 v6 v7 v8 v9 : V} (T : Txt P w K mg base a) (h : Ev ta σ H (.ref p)) (o : H p = some (.ins a.cMessage dx (messageF v0 v1 v2 v3 v4 v5 v6 v7 v8 v9))) : Ev (tFld K ta "relay") σ H v3 := ev_fld h o T.c_Message T.n_Message_relay messageF_relay
theorem ef_Message_machine {v0 v1 v2 v3 v4 v5 v6 v7 v8 v9 : V} (T : Txt P w K mg base a) (h : Ev ta σ H (.ref p)) (o : H p = some (.ins a.cMessage dx (messageF v0 v1 v2 v3 v4 v5 v6 v7 v8 v9))) : Ev (tFld K ta "machine") σ H v4 := ev_fld h o T.c_Message T.n_Message_machine messageF_machine
theorem ef_Message_kind {v0 v1 v2 v3 v4 v5 v6 v7 v8 v9 : V} (T : Txt P w K mg base a) (h : Ev ta σ H (.ref p)) (o : H p = some (.ins a.cMessage dx (messageF v0 v1 v2 v3 v4 v5 v6 v7 v8 v9))) : Ev (tFld K ta "kind") σ H v5 := ev_fld h o T.c_Message T.n_Message_kind messageF_kind
theorem ef_Message_wanted {v0 v1 v2 v3 v4 v5 v6 v7 v8 v9 : V} (T : Txt P w K mg base a) (h : Ev ta σ H (.ref p)) (o : H p = some (.ins a.cMessage dx (messageF v0 v1 v2 v3 v4 v5 v6 v7 v8 v9))) : Ev (tFld K ta "wanted") σ H v6 := ev_fld h o T.c_Message T.n_Message_wanted messageF_wanted
theorem ef_Message_server {v0 v1 v2 v3 v4 v5 v6 v7 v8 v9 : V} (T : Txt P w K mg base a) (h : Ev ta σ H (.ref p)) (o : H p = some (.ins a.cMessage dx (messageF v0 v1 v2 v3 v4 v5 v6 v7 v8 v9))) : Ev (tFld K ta "server") σ H v7 := ev_fld h o T.c_Message T.n_Message_server messageF_server
theorem ef_Message_identifier {v0 v1 v2 v3 v4 v5 v6 v7 v8 v9 : V} (T : Txt P w K mg base a) (h : Ev ta σ H (.ref p)) (o : H p = some (.ins a.cMessage dx (messageF v0 v1 v2 v3 v4 v5 v6 v7 v8 v9))) : Ev (tFld K ta "identifier") σ H v8 := ev_fld h o T.c_Message T.n_Message_identifier messageF_identifier
theorem ef_Message_who {v0 v1 v2 v3 v4 v5 v6 v7 v8 v9 : V} (T : Txt P w K mg base a) (h : Ev ta σ H (.ref p)) (o : H p = some (.ins a.cMessage dx (messageF v0 v1 v2 v3 v4 v5 v6 v7 v8 v9))) : Ev (tFld K ta "who") σ H v9 := ev_fld h o T.c_Message T.n_Message_who messageF_who
theorem ef_Lender_net {v0 v1 v2 : V} (T : Txt P w K mg base a) (h : Ev ta σ H (.ref p)) (o : H p = some (.ins a.cLender dx (lenderF v0 v1 v2))) : Ev (tFld K ta "net") σ H v0 := ev_fld h o T.c_Lender T.n_Lender_net lenderF_net
theorem ef_Lender_now {v0 v1 v2 : V} (T : Txt P w K mg base a) (h : Ev ta σ H (.ref p)) (o : H p = some (.ins a.cLender dx (lenderF v0 v1 v2))) : Ev (tFld K ta "now") σ H v1 := ev_fld h o T.c_Lender T.n_Lender_now lenderF_now
theorem ef_Lender_places {v0 v1 v2 : V} (T : Txt P w K mg base a) (h : Ev ta σ H (.ref p)) (o : H p = some (.ins a.cLender dx (lenderF v0 v1 v2))) : Ev (tFld K ta "places") σ H v2 := ev_fld h o T.c_Lender T.n_Lender_places lenderF_places
theorem ef_Net_server {v0 v1 v2 v3 v4 v5 v6 v7 : V} (T : Txt P w K mg base a) (h : Ev ta σ H (.ref p)) (o : H p = some (.ins a.cNet dx (netF v0 v1 v2 v3 v4 v5 v6 v7))) : Ev (tFld K ta "server") σ H v0 := ev_fld h o T.c_Net T.n_Net_server netF_server
theorem ef_Net_mask {v0 v1 v2 v3 v4 v5 v6 v7 : V} (T : Txt P w K mg base a) (h : Ev ta σ H (.ref p)) (o : H p = some (.ins a.cNet dx (netF v0 v1 v2 v3 v4 v5 v6 v7))) : Ev (tFld K ta "mask") σ H v1 := ev_fld h o T.c_Net T.n_Net_mask netF_mask
theorem ef_Net_way_out {v0 v1 v2 v3 v4 v5 v6 v7 : V} (T : Txt P w K mg base a) (h : Ev ta σ H (.ref p)) (o : H p = some (.ins a.cNet dx (netF v0 v1 v2 v3 v4 v5 v6 v7))) : Ev (tFld K ta "way_out") σ H v2 := ev_fld h o T.c_Net T.n_Net_way_out netF_way_out
theorem ef_Net_names {v0 v1 v2 v3 v4 v5 v6 v7 : V} (T : Txt P w K mg base a) (h : Ev ta σ H (.ref p)) (o : H p = some (.ins a.cNet dx (netF v0 v1 v2 v3 v4 v5 v6 v7))) : Ev (tFld K ta "names") σ H v3 := ev_fld h o T.c_Net T.n_Net_names netF_names
theorem ef_Net_first {v0 v1 v2 v3 v4 v5 v6 v7 : V} (T : Txt P w K mg base a) (h : Ev ta σ H (.ref p)) (o : H p = some (.ins a.cNet dx (netF v0 v1 v2 v3 v4 v5 v6 v7))) : Ev (tFld K ta "first") σ H v4 := ev_fld h o T.c_Net T.n_Net_first netF_first
theorem ef_Net_how_many {v0 v1 v2 v3 v4 v5 v6 v7 : V} (T : Txt P w K mg base a) (h : Ev ta σ H (.ref p)) (o : H p = some (.ins a.cNet dx (netF v0 v1 v2 v3 v4 v5 v6 v7))) : Ev (tFld K ta "how_many") σ H v5 := ev_fld h o T.c_Net T.n_Net_how_many netF_how_many
theorem ef_Net_how_long {v0 v1 v2 v3 v4 v5 v6 v7 : V} (T : Txt P w K mg base a) (h : Ev ta σ H (.ref p)) (o : H p = some (.ins a.cNet dx (netF v0 v1 v2 v3 v4 v5 v6 v7))) : Ev (tFld K ta "how_long") σ H v6 := ev_fld h o T.c_Net T.n_Net_how_long netF_how_long
theorem ef_Net_last {v0 v1 v2 v3 v4 v5 v6 v7 : V} (T : Txt P w K mg base a) (h : Ev ta σ H (.ref p)) (o : H p = some (.ins a.cNet dx (netF v0 v1 v2 v3 v4 v5 v6 v7))) : Ev (tFld K ta "last") σ H v7 := ev_fld h o T.c_Net T.n_Net_last netF_last
theorem ef_Desk_lender {v0 : V} (T : Txt P w K mg base a) (h : Ev ta σ H (.ref p)) (o : H p = some (.ins a.cDesk dx (deskF v0))) : Ev (tFld K ta "lender") σ H v0 := ev_fld h o T.c_Desk T.n_Desk_lender deskF_lender
end
/-! ### heaps that grow -/
theorem PlaceAt.ex {a : Ad} {H H' : Hp} {p : Addr} {ad : Int} {ls : Sd22.Lease} (e : Ex H H') (h : PlaceAt a H p ad ls) : PlaceAt a H' p ad ls :=
  let ⟨dx, o, h1, h2⟩ := h; ⟨dx, o, e _ _ h1, e _ _ h2⟩
theorem NetAt.ex {a : Ad} {H H' : Hp} {n : Addr} {N : Sd22.Net} (e : Ex H H') (h : NetAt a H n N) : NetAt a H' n N := let ⟨dx, h1⟩ := h; ⟨dx, e _ _ h1⟩
theorem IdAt.ex {H H' : Hp} {v : V} {o : Option Sd22.Bytes} (e : Ex H H') (h : IdAt H v o) : IdAt H' v o := by
  cases o with
  | none => exact h
  | some b =>
    obtain ⟨l, h1, h2⟩ := h
    exact ⟨l, h1, e _ _ h2⟩
theorem MsgAt.ex {a : Ad} {H H' : Hp} {m : Addr} {p : Sd22.Packet} (e : Ex H H') (h : MsgAt a H m p) : MsgAt a H' m p :=
  let ⟨dx, ln, lf, lm, lw, v, h1, h2, h3, h4, h5, h6⟩ := h; ⟨dx, ln, lf, lm, lw, v, e _ _ h1, e _ _ h2, e _ _ h3, e _ _ h4, h5.ex e, e _ _ h6⟩
theorem PlacesAt.ex {a : Ad} {H H' : Hp} {l : Addr} {as : List Addr} {f : Nat} {L : List Sd22.Lease} (e : Ex H H') (h : PlacesAt a H l as f L) : PlacesAt a H' l as f L :=
  ⟨e _ _ h.1, h.2.1, h.2.2.1, fun j p ls h1 h2 => (h.2.2.2 j p ls h1 h2).ex e⟩
theorem OptsAt.ex {H H' : Hp} {d : Addr} {o : List (Nat × Sd22.Bytes)} (e : Ex H H') (h : OptsAt H d o) : OptsAt H' d o :=
  let ⟨as, h1, h2, h3⟩ := h; ⟨as, h1, e _ _ h2, fun i x p q r => e _ _ (h3 i x p q r)⟩
theorem TabAt.ex {a : Ad} {H H' : Hp} (e : Ex H H') (h : TabAt a H) : TabAt a H' := LamX.TabS.ext h e
theorem LenderAt.ex {a : Ad} {H H' : Hp} {d : Addr} {as : List Addr} {A : Sd22.Abs} (e : Ex H H') (h : LenderAt a H d as A) : LenderAt a H' d as A :=
  let ⟨t, nd, dx, n, l, h1, h2, h3⟩ := h; ⟨t.ex e, nd, dx, n, l, e _ _ h1, h2.ex e, h3.ex e⟩
theorem Ex.frx {T : List Str} {H H' : Hp} (e : Ex H H') : FrX T H H' := fun b o h _ => e b o h
theorem FrX.refl {T : List Str} (H : Hp) : FrX T H H := fun _ _ h _ => h
theorem FrX.trans {T : List Str} {H H1 H2 : Hp} (x : FrX T H H1) (y : FrX T H1 H2) : FrX T H H2 := fun b o h s => y b o (x b o h s) s
theorem FrX.lst {T : List Str} {H H' : Hp} {l : Addr} {xs : List V} (x : FrX T H H') (h : H l = some (.lst xs)) : H' l = some (.lst xs) := x _ _ h trivial
theorem FrX.sub {S T : List Str} {H H' : Hp} (h : ∀ k ∈ S, k ∈ T) (x : FrX S H H') : FrX T H H' := fun b o e s => x b o e (by
  cases o with
  | ins C dx fs =>
    cases fs with
    | nil => trivial
    | cons q r => exact fun hm => s (h _ hm)
  | tbl _ => exact s
  | _ => trivial)
/-! ### pure promises, called -/
section
variable {K : PySem.W.Frag} {P : Program} {w : World} {a : Ad} {H : Hp}
theorem spv_freeAt {p : Addr} {ad : Int} {ls : Sd22.Lease} {now : Nat} (h : PlaceAt a H p ad ls) : SpV (sp_freeAt K P w a) [.ref p, .int (now : Int)] H (.bl (freeL now ls)) := fun H1 e Q q E => ⟨p, ad, ls, now, rfl, h.ex e, q⟩
theorem spv_ownOf {p o : Addr} {ad : Int} {ls : Sd22.Lease} {who : Sd22.Bytes} (h : PlaceAt a H p ad ls) (ho : H o = some (.lst (iv who))) : SpV (sp_ownOf K P w a) [.ref p, .ref o] H (.bl (ls.who == who)) := fun H1 e Q q E => ⟨p, ad, ls, o, who, rfl, h.ex e, e _ _ ho, q⟩
theorem spv_ownAmong {l o : Addr} {as : List Addr} {f : Nat} {L : List Sd22.Lease} {who : Sd22.Bytes} (h : PlacesAt a H l as f L) (ho : H o = some (.lst (iv who))) : SpV (sp_ownAmong K P w a) [.ref l, .ref o] H (atIx as (ownIx L who)) := fun H1 e Q q E => ⟨l, as, f, L, o, who, rfl, h.ex e, e _ _ ho, q⟩
theorem spv_numberOf {l : Addr} {bs : List Nat} (h : H l = some (.lst (iv bs))) (h4 : bs.length ≤ 4) (hb : B256 bs) : SpV (sp_numberOf K P w a) [.ref l] H (.int (Sd22.high bs : Nat)) := fun H1 e Q q E => ⟨l, bs, rfl, e _ _ h, h4, hb, q⟩
theorem spv_addressIn {d : Addr} {c : Nat} {o : List (Nat × Sd22.Bytes)} (h : OptsAt H d o) (hb : ∀ b, optOf o c = some b → b.length ≤ 4 ∧ B256 b) : SpV (sp_addressIn K P w a) [.ref d, .int (c : Int)] H (oi ((optOf o c).map Sd22.high)) := fun H1 e Q q E => ⟨d, c, o, rfl, h.ex e, hb, q⟩
theorem spv_areRight {d : Addr} {o : List (Nat × Sd22.Bytes)} (h : OptsAt H d o) (nd : (o.map (·.1)).Nodup) : SpV (sp_areRight K P w a) [.ref d] H (.bl (rightO o)) := fun H1 e Q q E => ⟨d, o, rfl, h.ex e, nd, q⟩
theorem spv_addressFor {m : Addr} {p : Sd22.Packet} {kind given : Nat} (h : MsgAt a H m p) (ok : MsgOk p) : SpV (sp_addressFor K P w a) [.ref m, .int (kind : Int), .int (given : Int)] H (.int ((Sd22.aim p kind given).1 : Nat)) := fun H1 e Q q E => ⟨m, p, kind, given, rfl, h.ex e, ok, q⟩
theorem spv_portFor {m : Addr} {p : Sd22.Packet} {kind given : Nat} (h : MsgAt a H m p) (ok : MsgOk p) : SpV (sp_portFor K P w a) [.ref m] H (.int ((Sd22.aim p kind given).2 : Nat)) := fun H1 e Q q E => ⟨m, p, kind, given, rfl, h.ex e, ok, q⟩
theorem spv_lends {n : Addr} {N : Sd22.Net} {x : Nat} (h : NetAt a H n N) : SpV (sp_lends K P w a) [.ref n, .int (x : Int)] H (.bl (decide (N.first ≤ x ∧ x < N.first + N.count))) := fun H1 e Q q E => ⟨n, N, x, rfl, h.ex e, q⟩
theorem spv_sharesNet {n : Addr} {N : Sd22.Net} {x : Nat} (h : NetAt a H n N) : SpV (sp_sharesNet K P w a) [.ref n, .int (x : Int)] H (.bl (Nat.land x N.mask == Nat.land N.server N.mask)) := fun H1 e Q q E => ⟨n, N, x, rfl, h.ex e, q⟩
theorem spv_isMask {m : Nat} (h : W32 m) : SpV (sp_isMask K P w a) [.int (m : Int)] H (.bl (maskB m)) := fun H1 e Q q E => ⟨m, rfl, h, q⟩
theorem spv_isRight {n : Addr} {ns : List Nat} (h : NetAt a H n (netOf ns)) (hb : ∀ x ∈ ns, W32 x) : SpV (sp_isRight K P w a) [.ref n] H (.bl (rightN ns)) := fun H1 e Q q E => ⟨n, ns, rfl, h.ex e, hb, q⟩
theorem spv_placeAt {d : Addr} {as : List Addr} {A : Sd22.Abs} {x : Option Nat} (h : LenderAt a H d as A) (g : Good A) : SpV (sp_placeAt K P w a) [.ref d, oi x] H (atIx as (x.bind A.place)) := fun H1 e Q q E => ⟨d, as, A, x, rfl, h.ex e, g, q⟩
theorem spv_ownAt {d o : Addr} {as : List Addr} {A : Sd22.Abs} {x : Option Nat} {who : Sd22.Bytes} (h : LenderAt a H d as A) (g : Good A) (ho : H o = some (.lst (iv who))) : SpV (sp_ownAt K P w a) [.ref d, oi x, .ref o] H (atIx as ((x.bind A.place).filter fun i => (A.at_ i).who == who)) := fun H1 e Q q E => ⟨d, as, A, x, o, who, rfl, h.ex e, g, e _ _ ho, q⟩
theorem spg_fourBytes {n : Nat} (h : W32 n) : SpG (sp_fourBytes K P w a) [.int (n : Int)] H (iv (Sd22.be 4 n)) := fun H1 e Q q E => ⟨n, rfl, h, fun H' p => q p H'⟩
theorem spg_numberOption {c n : Nat} (h : W32 n) : SpG (sp_numberOption K P w a) [.int (c : Int), .int (n : Int)] H (iv (c :: 4 :: Sd22.be 4 n)) := fun H1 e Q q E => ⟨c, n, rfl, h, fun H' p => q p H'⟩
theorem spg_optionsOf {n m : Addr} {N : Sd22.Net} {p : Sd22.Packet} {kind given : Nat} (h : NetAt a H n N) (ho : NetOk N) (hm : MsgAt a H m p) (ok : MsgOk p) : SpG (sp_optionsOf K P w a) [.ref n, .ref m, .int (kind : Int), .int (given : Int)] H (iv (optsB N p kind given)) := fun H1 e Q q E => ⟨n, m, N, p, kind, given, rfl, h.ex e, ho, hm.ex e, ok, fun H' p => q p H'⟩
theorem spg_header {m : Addr} {p : Sd22.Packet} {kind given : Nat} (hm : MsgAt a H m p) (ok : MsgOk p) (hg : W32 given) : SpG (sp_header K P w a) [.ref m, .int (kind : Int), .int (given : Int)] H (iv (headB p kind given)) := fun H1 e Q q E => ⟨m, p, kind, given, rfl, hm.ex e, ok, hg, fun H' p => q p H'⟩
theorem spg_reply {n m : Addr} {N : Sd22.Net} {p : Sd22.Packet} {kind given : Nat} (h : NetAt a H n N) (ho : NetOk N) (hm : MsgAt a H m p) (ok : MsgOk p) (hg : W32 given) : SpG (sp_reply K P w a) [.ref n, .ref m, .int (kind : Int), .int (given : Int)] H (iv (ansB N p kind given)) := fun H1 e Q q E => ⟨n, m, N, p, kind, given, rfl, h.ex e, ho, hm.ex e, ok, hg, fun H' p => q p H'⟩
theorem spg_look {d : Addr} {as : List Addr} {A : Sd22.Abs} {x : Nat} (h : LenderAt a H d as A) (g : Good A) : SpG (sp_look K P w a) [.ref d, .int (x : Int)] H (zv (ansL (Sd22.step (some A) (.look x)).2)) := fun H1 e Q q E => ⟨d, as, A, x, rfl, h.ex e, g, fun H' p h1 h2 => q p H' h2 h1⟩
theorem spg_deny {d m : Addr} {as : List Addr} {A : Sd22.Abs} {p : Sd22.Packet} (h : LenderAt a H d as A) (g : Good A) (hm : MsgAt a H m p) (ok : MsgOk p) : SpG (sp_deny K P w a) [.ref d, .ref m] H (iv (saidL (Sd22.refuse A p).2)) := fun H1 e Q q E => ⟨d, as, A, m, p, rfl, h.ex e, g, hm.ex e, ok, fun H' p h1 h2 => q p H' h2 h1⟩
end
end Lp
namespace Lp
open PySem PySem.Spec PyProof.Rows L2 Evl LamX NdefX
/-! ### a lambda of one argument, run -/
section
variable {X : Cx} {pins : List (Addr × Obj)} {σ : L2.St} {H : Hp} {s : Shared}
theorem lam_run {A : Around} {outer : List Env} {P : Program} {w : World} {K : PySem.W.Frag} {mg : Str → Option Value} {base : Heap} {f c' : Addr} {q pn : Str} {params : Arguments} {body : Expr} {scope : Scope} {pm ctv u : Value} {v : V} {tb : TE} {Q : VK}
    (e0 : Env0 P w K mg base A outer s H) (hr : Room 1 A) (hf : s.heap.get? f = some (PySem.W.kla_obj "<lambda>" q params body scope [] pm c' ctv)) (hco : H c' = some (CodeO c' q))
    (S : NScope [pn] [pn] [] scope) (hb : bindArgs (PySem.W.kla_fn "<lambda>" q params body scope [] pm (.ref c') ctv) ⟨[u], []⟩ = pure [(pn, u)]) (r : RelV v u)
    (hbody : PE (ncx CX0 P w K mg base [pn] ⟨"<lambda>", q, params, [], scope, [], c'⟩ f A outer s H E0) body tb) (h : tb [some v] H Q) :
    codeAny (model P w) A (.call (.ref f) ⟨[u], []⟩) (CR CX0 outer P w H s Q E0) s := by
  have lim : s.heap.NoLimit := e0.mod.nolimit.keeps fun b o e => (e0.bs b o e).1
  obtain ⟨⟨oc, us, t, hoc, hdc, hvc⟩, _, _⟩ := e0.hok c' _ hco
  refine PySem.W.kla_callFunE hr.depth hf rfl S.co S.gen rfl ⟨c', oc, us, t, rfl, hoc, hdc, hvc⟩ ?_
  rw [hb]
  refine wpAny_pure (wpAny_newFunctionEnv S.nocell (fun y hy => ?_) (fun g hns hsb => ⟨lim.fresh _ hsb, ?_⟩) S.kind)
  · obtain rfl : y = (pn, u) := List.mem_singleton.mp hy
    exact S.par pn List.mem_cons_self
  show codeAny _ _ (.expr body (envF ⟨"<lambda>", q, params, [], scope, [], c'⟩ f s.heap.objs.size)) _ _
  have kp : ∀ b o, s.heap.get? b = some o → g.get? b = some o := fun b o e => hsb.extBut b o (Nat.ne_of_lt (Heap.lt_size e)) (Heap.get?_push_of_some _ e)
  have C : CellsAt ([] : List (Str × Addr)) [] [] s.heap H := ⟨rfl, (fun y c e => by cases e), (fun x y c e => by cases e), (fun i y e => by simp at e)⟩
  have J : Inv (ncx CX0 P w K mg base [pn] ⟨"<lambda>", q, params, [], scope, [], c'⟩ f A outer s H E0) [] (startF [pn] [v] []) H { s with heap := g, toks := s.toks + 1 } :=
    inv_startN (us := [u]) S hr.hd e0 rfl (.cons r .nil) C hns kp
  refine PySem.W.kla_codeExpr (wpAny_mono (hbody.run [] _ _ H Q J h) (fun z s' hq => ?_) fun e s' hq => hq)
  obtain ⟨w', H', J', rv, q'⟩ := hq
  exact ⟨w', H', J'.os, J'.bare, J'.base, J'.hok, rv, q'⟩
end
/-! ### min(xs, key=lambda one: one.f, default=None), xs a list of instances -/
def btI (ts : List Int) (i j : Nat) : Bool := decide (ts.getD i 0 < ts.getD j 0)
def minV (as : List Addr) (ts : List Int) : V := if as.length = 0 then .non else .ref (as.getD (argBest (btI ts) (as.length - 1)) 0)
def tMinD (C P : Addr) (q f : Str) (tl : TE) : TE := fun σ H Q => tl σ H fun x H1 => ∃ (l : Addr) (as : List Addr) (ts : List Int), x = .ref l ∧ H1 l = some (.lst (as.map V.ref)) ∧
  (∀ (j : Nat) (p : Addr), as[j]? = some p → ∃ dx fs, H1 p = some (.ins C dx fs) ∧ fs.lookup f = some (.int (ts.getD j 0))) ∧ TabS H1 P q ∧ ∀ H2, ExtN H1 H2 → TabS H2 P q → Q (minV as ts) H2
section
variable {X : Cx}
theorem refs_only : ∀ {as : List Addr} {its : List Value}, Vals (as.map V.ref) its → its = as.map Value.ref
  | [], _, .nil => rfl
  | a :: as, _, .cons r t => by
    obtain rfl := r
    rw [refs_only t]
    rfl
theorem pe_minD {C c P : Addr} {q pn f : Str} {e : Expr} {te : TE} {params : Arguments} {body : Expr} {scope : Scope} {p pos lpos k1 k2 cpos : Pos} {j : Nat} (hc : X.calm = true) (hr : Room 3 X.A) (hg : Gl X "min") (hm : X.mg "min" = none)
    (TB : TabB X.base X.mg c P) (hcode : X.env.code = .ref c) (hq : X.env.qual ++ "<lambda>" = q) (hdef : defaultsOf params X.env = ([], [])) (S : NScope [pn] [pn] [] scope) (hfree : ∀ y ∈ scope.names, y.2 ≠ .free) (hclo : ∀ cells : List (Str × Addr), cloFrom cells scope.names [] = [])
    (hb : ∀ (pm cv ctv u : Value), bindArgs (PySem.W.kla_fn "<lambda>" q params body scope [] pm cv ctv) ⟨[u], []⟩ = pure [(pn, u)])
    (cl : Cls X.K C) (na : NoAttr X.K C f) (hbody : ∀ (A : Around) (s : Shared) (H : Hp) (f' c' : Addr), PE (ncx CX0 X.prog X.w X.K X.mg X.base [pn] ⟨"<lambda>", q, params, [], scope, [], c'⟩ f' A X.stack s H E0) body (tFld X.K (tVar 0) f))
    (he : PE X e te) (hmono : ∀ σ H (Q Q' : VK), (∀ v H', Q v H' → Q' v H') → te σ H Q → te σ H Q')
    (hs1 : starEach [e] X.env = (false, eval e X.env) :: starEach [] X.env := by rfl) (hst : backTo pos (starEach [e] X.env) = (false, eval e X.env) :: backTo pos (starEach [] X.env) := by rfl) (hpl : (backTo pos (starEach [e] X.env)).any (·.1) = false := by rfl)
    (hall : (backToKw pos (keywordEach [⟨some "key", .Lambda params body scope lpos, k1⟩, ⟨some "default", .Constant .none j cpos, k2⟩] X.env)).all (·.1.isSome) = true := by rfl)
    (hnone : (backToKw pos (keywordEach [⟨some "key", .Lambda params body scope lpos, k1⟩, ⟨some "default", .Constant .none j cpos, k2⟩] X.env)).any (·.1.isNone) = false := by rfl) :
    PE X (.Call (.Name "min" p) [e] [⟨some "key", .Lambda params body scope lpos, k1⟩, ⟨some "default", .Constant .none j cpos, k2⟩] pos) (tMinD C P q f te) := by
  constructor
  intro pins s σ H Q I h
  have h0 : tMinD C P q f te σ H Q → tCons te tNil σ H (fun vs H1 => ∃ x, vs = [x] ∧ ∃ (l : Addr) (as : List Addr) (ts : List Int), x = .ref l ∧ H1 l = some (.lst (as.map V.ref)) ∧
      (∀ (j : Nat) (p : Addr), as[j]? = some p → ∃ dx fs, H1 p = some (.ins C dx fs) ∧ fs.lookup f = some (.int (ts.getD j 0))) ∧ TabS H1 P q ∧ ∀ H2, ExtN H1 H2 → TabS H2 P q → Q (minV as ts) H2) := fun z => hmono σ H _ _ (fun x H1 y => ⟨x, rfl, y⟩) z
  refine wpAny_Call_Name_kw (ld_blt (x := "min") (u := .builtin "min") I hg hm (by decide +kernel) ?_ (by decide) (by decide))
  refine PyProof.Rows.callWith_kw (thn ((pa_cons he pa_nil hs1).run pos pins s σ H (fun vs H1 => ∃ x, vs = [x] ∧ ∃ (l : Addr) (as : List Addr) (ts : List Int), x = .ref l ∧ H1 l = some (.lst (as.map V.ref)) ∧
      (∀ (j : Nat) (p : Addr), as[j]? = some p → ∃ dx fs, H1 p = some (.ins C dx fs) ∧ fs.lookup f = some (.int (ts.getD j 0))) ∧ TabS H1 P q ∧ ∀ H2, ExtN H1 H2 → TabS H2 P q → Q (minV as ts) H2) I (h0 h)) fun us s1 ⟨vs, H1, I1, r1, q1⟩ => ?_) hst hpl hall hnone
  obtain ⟨x, rfl, l, as, ts, rfl, hl, hp, hT, hQ⟩ := q1
  have hmT : (P, X.env.qual ++ "<lambda>") ∈ [(P, q)] := by rw [hq]; exact List.mem_cons_self
  have hu : ∀ r ∈ [(P, q)], r.1 = P → r.2 = X.env.qual ++ "<lambda>" := fun r hr _ => by
    obtain rfl := List.mem_singleton.mp hr
    exact hq.symm
  have hT1 : Tabs [(P, q)] H1 := fun r hr => by
    obtain rfl := List.mem_singleton.mp hr
    exact hT
  show wpAny _ X.A (evalAll [(do let v ← eval (.Lambda params body scope lpos) X.env; standAt pos; pure v), (do let v ← eval (.Constant .none j cpos) X.env; standAt pos; pure v)]) _ _ s1
  refine wpAny_evalAll_cons (wpAny_bind (lam_make2 I1 TB hcode hmT hu hT1 hdef (fun y hy e => absurd e (hfree y hy)) fun g c' pm ctv H2 s2 I2 eN T2 hg' hgn hgf hco => wpAny_bind (wpAny_standAt (wpAny_pure ?_))))
  rw [hclo, hq] at hg'
  rw [hq] at hco
  refine wpAny_evalAll_cons (wpAny_bind (Constant_none (wpAny_bind (wpAny_standAt (wpAny_pure (wpAny_evalAll_nil ?_))))))
  rw [Vals.ref1 r1]
  show wpAny _ _ (call (.builtin "min") [.ref l] [(Str.ofString "key", .ref g), (Str.ofString "default", .none)]) _ _ s2
  have hl2 : H2 l = some (.lst (as.map V.ref)) := eN _ _ hl (fun ps z => by cases z)
  have hp2 : ∀ (j : Nat) (r : Addr), as[j]? = some r → ∃ dx fs, H2 r = some (.ins C dx fs) ∧ fs.lookup f = some (.int (ts.getD j 0)) := fun j r hj => by
    obtain ⟨dx, fs, h1, h2⟩ := hp j r hj
    exact ⟨dx, fs, eN _ _ h1 (fun ps z => by cases z), h2⟩
  have hT3 : TabS H2 P q := T2 (P, q) List.mem_cons_self
  have fin : ∀ {v : V} {u : Value} {s' : Shared}, Inv X pins σ H2 s' → RelV v u → v = minV as ts → EP X pins σ Q u s' := fun {v u s'} J r e => ⟨v, H2, J, r, by rw [e]; exact hQ H2 eN hT3⟩
  obtain ⟨its, rv, hls, _⟩ := I2.list (SqL.of hl2)
  obtain rfl := refs_only rv
  have hsz : (as.map Value.ref).toArray.size = as.length := by simp
  have nofr : ∀ b, s2.heap.objs.size ≤ b → b ∉ frs X.stack := fun b hb z => by
    cases I2.stkSub _ z with
    | head => exact Nat.lt_irrefl _ (Nat.lt_of_lt_of_le I2.lt hb)
    | tail _ z => exact I2.nofs hb z
  have hg3 : s2.heap.get? g = some (PySem.W.kla_obj "<lambda>" q params body scope [] pm c' ctv) := hg'
  have gl : g < s2.heap.objs.size := Heap.lt_size hg3
  have ll : l < s2.heap.objs.size := by
    obtain ⟨_, e, _⟩ := hls.isList
    exact Heap.lt_size e
  refine PySem.call_min_walkKD (iter_any hls.isList fun t et st hne => ?_)
  subst et
  have fpk : ∀ b, s2.heap.objs.size ≤ b → FpOk X pins H2 b := fun b hb => I2.fpOk hb (I2.hok.fresh hb)
  have moved : ∀ (ch : List Addr) (s s' : Shared), (∀ b ∈ ch, s2.heap.objs.size ≤ b) → (Inv X pins σ H2 s ∧ s.heap.get? g = some (PySem.W.kla_obj "<lambda>" q params body scope [] pm c' ctv)) → Moved ch (fun a b => b = a) s s' →
      (Inv X pins σ H2 s' ∧ s'.heap.get? g = some (PySem.W.kla_obj "<lambda>" q params body scope [] pm c' ctv)) := fun ch s s' hch ⟨J, e⟩ m => by
    refine ⟨?_, m.heap _ _ (fun z => absurd (Nat.lt_of_lt_of_le gl (hch _ z)) (Nat.lt_irrefl _)) e⟩
    obtain ⟨m1, m2, m3, m4, m5⟩ := m
    obtain ⟨x1, x2, x3, x4, x5⟩ := s'
    obtain rfl := m2
    obtain rfl := m3
    obtain rfl := m4
    exact J.turnedL (t' := x4) m1 fun b hb => fpk b (hch b hb)
  refine ⟨s2.heap.objs.size, _, [s2.heap.objs.size], _, _, _, _, fun s => Inv X pins σ H2 s ∧ s.heap.get? g = some (PySem.W.kla_obj "<lambda>" q params body scope [] pm c' ctv), fun i k _ => ∃ t, k = .int (ts.getD i 0) t, btI ts, rfl, (Walks.list (A := X.A.in1) (I.ok.hd hc) _ l hne (as.map Value.ref).toArray).toS, st, ?_, ?_, ?_, ?_, ?_⟩
  · intro b hb
    show b < (s2.heap.push _).objs.size
    have z : (s2.heap.push { cls := .type "list_iterator", data := .fields #[.ref l, .int 0 0] }).objs.size = s2.heap.objs.size + 1 := Heap.size_push _ _
    rw [z]
    cases hb with
    | head => exact Nat.lt_succ_self _
    | tail _ hb =>
      obtain rfl := List.mem_singleton.mp hb
      exact Nat.lt_succ_of_lt ll
  · have sS : s2.heap.objs.size ≤ (s2.heap.push { cls := .type "list_iterator", data := .fields #[.ref l, .int 0 0] }).objs.size := by
      rw [Heap.size_push]
      exact Nat.le_succ _
    refine ⟨fun s s' J m => moved _ s s' (fun b hb => ?_) J m, fun i k s s' hv _ => hv, fun i v s o Q' E' hi hP ⟨J, hgs⟩ hst hS hk => ?_, fun i j ki kj s Q' E' _ hki hkj hq' => ?_⟩
    · cases hb with
      | head => exact sS
      | tail _ hb =>
        obtain rfl := List.mem_singleton.mp hb
        exact Nat.le_refl _
    · have hP' : ((as.map Value.ref).toArray)[i]? = some v := hP
      obtain ⟨r, hr1, rfl⟩ : ∃ r, as[i]? = some r ∧ v = .ref r := by
        have z : (as.map Value.ref)[i]? = some v := by simpa using hP'
        rw [List.getElem?_map] at z
        obtain ⟨r, h1, h2⟩ := Option.map_eq_some_iff.mp z
        exact ⟨r, h1, h2.symm⟩
      obtain ⟨dx, fs, hr2, hr3⟩ := hp2 i r hr1
      refine wpAny_call (codeAny_mono (lam_run (v := .ref r) (u := .ref r) (Q := fun v' H' => v' = .int (ts.getD i 0) ∧ H' = H2) J.env0.in1 (hr.in1.mono (by decide)) hgs hco S (hb _ _ _ _) rfl (hbody _ _ _ _ _)
        ⟨.ref r, rfl, r, C, dx, fs, _, rfl, hr2, cl, na, hr3, rfl, rfl⟩) fun res s' hq => ?_)
      cases res with
      | error e => exact (show False from hq).elim
      | ok fl =>
        cases fl with
        | next => exact False.elim hq
        | brk => exact False.elim hq
        | cont => exact False.elim hq
        | ret u =>
          have hq2 := hq
          obtain ⟨_, _, _, _, un, _, _, _, e2⟩ := hq2
          subst e2
          obtain ⟨v', H', J', rv', e3, e4⟩ := J.after hq
          subst e3 e4
          have hnI := I2.hok.fresh (Nat.le_refl s2.heap.objs.size)
          refine hk u s' ⟨J', un.keep g _ hgs hgn hgf (by simp)⟩ ⟨hst.1.at fun oi e => un.keep _ _ e hnI (nofr _ (Nat.le_refl _)) (by simp), ?_⟩ (un.keep _ _ hS (I2.hok.fresh sS) (nofr _ sS) (by simp)) rv' fun _ _ y => y
          obtain ⟨its', rv2, hls', _⟩ := J'.list (SqL.of hl2)
          obtain rfl := refs_only rv2
          exact hls'.isList
    · exact CmpOf.ints_lt (prog := X.prog) (w := X.w) (A := X.A.in1) (P := fun i v => ∃ t, v = .int (ts.getD i 0) t) (fun i => ts.getD i 0) (fun i v h => h) i j _ _ _ _ _ hki hkj hq'
  · exact ⟨I2.kept fun b o e => Heap.get?_push_of_some _ e, Heap.get?_push_of_some _ hg3⟩
  · intro hn s' J
    rw [hsz] at hn
    exact fin J.1 (v := .non) rfl (by unfold minV; rw [if_pos hn])
  · intro hn v s' hP J
    rw [hsz] at hn hP
    have z : (as.map Value.ref)[argBest (btI ts) (as.length - 1)]? = some v := by simpa using hP
    rw [List.getElem?_map] at z
    obtain ⟨r, h1, h2⟩ := Option.map_eq_some_iff.mp z
    refine fin J.1 (v := .ref r) h2.symm ?_
    unfold minV
    rw [if_neg (by omega), List.getD_eq_getElem?_getD, h1]
    rfl
end
end Lp
namespace Lp
open PySem PySem.Spec PyProof.Rows L2 Evl
/-! ### the readings of the bodies -/
def t_pInit (K : PySem.W.Frag) (P : Program) (w : World) (a : Ad) : TS :=
  (tSeq (sFld K (tVar 0) (tVar 1) "address")
    (tSeq (sFld K (tVar 0) (tC (.int 0)) "state")
    (tSeq (sFld K (tVar 0) (tC (.int 0)) "till")
    (sFld K (tVar 0) (tLst tNil) "owner"))))
def t_turn (K : PySem.W.Frag) (P : Program) (w : World) (a : Ad) : TS :=
  (tSeq (sFld K (tVar 0) (tVar 1) "state")
    (tSeq (sFld K (tVar 0) (tVar 2) "till")
    (sFld K (tVar 0) (tVar 3) "owner")))
def t_freeAt (K : PySem.W.Frag) (P : Program) (w : World) (a : Ad) : TS :=
  (tRet (tOrV (tOp rEq (tFld K (tVar 0) "state") (tC (.int 0))) (tOp rLe (tFld K (tVar 0) "till") (tVar 1))))
def t_ownOf (K : PySem.W.Frag) (P : Program) (w : World) (a : Ad) : TS :=
  (tRet (tOp (rEqD K) (tFld K (tVar 0) "owner") (tVar 1)))
def t_ownAmong (K : PySem.W.Frag) (P : Program) (w : World) (a : Ad) : TS :=
  (tSeq (tFor (iList K (tVar 0)) (gName 2) (tIfS (tB (tMeth a.cPlace "is_own_of" (sp_ownOf K P w a) [] E0 (tVar 2) (tCons (tVar 1) tNil))) (tRet (tVar 2)) tNext))
    (tRet (tC .non)))
def t_oldest (K : PySem.W.Frag) (P : Program) (w : World) (a : Ad) : TS :=
  (tSeq (tAsg (tLc (iList K (tVar 0)) (gName 2) (tB (tMeth a.cPlace "is_free_at" (sp_freeAt K P w a) [] E0 (tVar 2) (tCons (tVar 1) tNil))) (tVar 2) [2]) (gName 3))
    (tSeq (tFor (iList K (tVar 3)) (gName 2) (tIfS (tTest (tOp (rEqD K) (tFld K (tVar 2) "owner") (tLst tNil))) (tRet (tVar 2)) tNext))
    (tRet (tMinD a.cPlace a.pTab qOld "till" (tVar 3)))))
def t_numberOf (K : PySem.W.Frag) (P : Program) (w : World) (a : Ad) : TS :=
  (tSeq (tAsg (tC (.int 0)) (gName 1))
    (tSeq (tFor (iList K (tVar 0)) (gName 2) (tAsg (tOp rAdd (tOp rMul (tVar 1) (tC (.int 256))) (tVar 2)) (gName 1)))
    (tRet (tVar 1))))
def t_addressIn (K : PySem.W.Frag) (P : Program) (w : World) (a : Ad) : TS :=
  (tSeq (tIfS (tB (tDIn (tVar 1) (tVar 0))) (tRet (tCall (sp_numberOf K P w a) [] E0 (tCons (tDGet (tVar 0) (tVar 1)) tNil))) tNext)
    (tRet (tC .non)))
def t_mInit (K : PySem.W.Frag) (P : Program) (w : World) (a : Ad) : TS :=
  (tSeq (sFld K (tVar 0) (tSl (rSlL K) (tVar 1) (tPart (tC (.int 4))) (tPart (tC (.int 8)))) "number")
    (tSeq (sFld K (tVar 0) (tSl (rSlL K) (tVar 1) (tPart (tC (.int 10))) (tPart (tC (.int 12)))) "flags")
    (tSeq (sFld K (tVar 0) (tCall (sp_numberOf K P w a) [] E0 (tCons (tSl (rSlL K) (tVar 1) (tPart (tC (.int 12))) (tPart (tC (.int 16)))) tNil)) "client")
    (tSeq (sFld K (tVar 0) (tCall (sp_numberOf K P w a) [] E0 (tCons (tSl (rSlL K) (tVar 1) (tPart (tC (.int 24))) (tPart (tC (.int 28)))) tNil)) "relay")
    (tSeq (sFld K (tVar 0) (tSl (rSlL K) (tVar 1) (tPart (tC (.int 28))) (tPart (tC (.int 44)))) "machine")
    (tSeq (sFld K (tVar 0) (tOp (rIxL K) (tDGet (tVar 2) (tC (.int 53))) (tC (.int 0))) "kind")
    (tSeq (sFld K (tVar 0) (tCall (sp_addressIn K P w a) [] E0 (tCons (tVar 2) (tCons (tC (.int 50)) tNil))) "wanted")
    (tSeq (sFld K (tVar 0) (tCall (sp_addressIn K P w a) [] E0 (tCons (tVar 2) (tCons (tC (.int 54)) tNil))) "server")
    (tSeq (sFld K (tVar 0) (tDGet1 (tVar 2) (tC (.int 61))) "identifier")
    (tSeq (sFld K (tVar 0) (tFld K (tVar 0) "identifier") "who")
    (tIfS (tTest (tOp rIsN (tFld K (tVar 0) "identifier") (tC .non))) (sFld K (tVar 0) (tOp rCat (tLst (tCons (tC (.int 1)) tNil)) (tSl (rSlL K) (tFld K (tVar 0) "machine") tNoPart (tPart (tC (.int 6))))) "who") tNext)))))))))))
def t_areRight (K : PySem.W.Frag) (P : Program) (w : World) (a : Ad) : TS :=
  (tSeq (tIfS (tOr (tB (tDIn (tC (.int 52)) (tVar 0))) (tB (tDNotIn (tC (.int 53)) (tVar 0)))) (tRet (tC (.bl false))) tNext)
    (tSeq (tFor (iKeysW K P w (tC (.ref a.kLENGTHS))) (gName 1) (tIfS (tB (tDIn (tVar 1) (tVar 0))) (tSeq (tAsg (tOp (rIxKI K P w) (tC (.ref a.kLENGTHS)) (tVar 1)) (gName 2))
    (tIfS (tNot (tTest (tChain rLe rLe (tOp (rIxT K) (tVar 2) (tC (.int 0))) (tCB (rLenS K) (tCons (tDGet (tVar 0) (tVar 1)) tNil)) (tOp (rIxT K) (tVar 2) (tC (.int 1)))))) (tRet (tC (.bl false))) tNext)) tNext))
    (tRet (tC (.bl true)))))
def t_readOptions (K : PySem.W.Frag) (P : Program) (w : World) (a : Ad) : TS :=
  (tSeq (tAsg tDNewK (gName 1))
    (tSeq (tAsg (tC (.int 240)) (gName 2))
    (tSeq (tWhile (tAnd (tTest (tOp rLt (tOp rAdd (tVar 2) (tC (.int 1))) (tCB (rLenS K) (tCons (tVar 0) tNil)))) (tTest (tOp rNe (tOp (rIxL K) (tVar 0) (tVar 2)) (tC (.int 255))))) (tSeq (tAsg (tOp (rIxL K) (tVar 0) (tVar 2)) (gName 3))
    (tIfS (tTest (tOp rEq (tVar 3) (tC (.int 0)))) (tAug 2 (tC (.int 1)) (ipI fun i j => i + j)) (tIfS (tB (tDIn (tVar 3) (tVar 1))) (tRet (tC .non)) (tSeq (tAsg (tOp rAdd (tOp rAdd (tVar 2) (tC (.int 2))) (tOp (rIxL K) (tVar 0) (tOp rAdd (tVar 2) (tC (.int 1))))) (gName 4))
    (tSeq (sDPut (tVar 1) (tVar 3) (tSl (rSlL K) (tVar 0) (tPart (tOp rAdd (tVar 2) (tC (.int 2)))) (tPart (tVar 4))))
    (tAsg (tVar 4) (gName 2))))))))
    (tSeq (tIfS (tOr (tTest (tOp rGe (tVar 2) (tCB (rLenS K) (tCons (tVar 0) tNil)))) (tOr (tTest (tOp rNe (tOp (rIxL K) (tVar 0) (tVar 2)) (tC (.int 255)))) (tB (tCB (rAnyI K) (tCons (tSl (rSlL K) (tVar 0) (tPart (tOp rAdd (tVar 2) (tC (.int 1)))) tNoPart) tNil))))) (tRet (tC .non)) tNext)
    (tRet (tVar 1))))))
def t_readMessage (K : PySem.W.Frag) (P : Program) (w : World) (a : Ad) : TS :=
  (tSeq (tIfS (tNot (tTest (tChain rLe rLe (tC (.int 244)) (tCB (rLenS K) (tCons (tVar 0) tNil)) (tC (.int 576))))) (tRet (tC .non)) tNext)
    (tSeq (tIfS (tOr (tTest (tOp (rNeD K) (tSl (rSlL K) (tVar 0) tNoPart (tPart (tC (.int 3)))) (tLst (tCons (tC (.int 1)) (tCons (tC (.int 1)) (tCons (tC (.int 6)) tNil)))))) (tTest (tOp (rNeD K) (tSl (rSlL K) (tVar 0) (tPart (tC (.int 236))) (tPart (tC (.int 240)))) (tCB (rListS K) (tCons (tC (.ref a.kCOOKIE)) tNil))))) (tRet (tC .non)) tNext)
    (tSeq (tAsg (tCall (sp_readOptions K P w a) [] E0 (tCons (tVar 0) tNil)) (gName 1))
    (tSeq (tIfS (tOr (tTest (tOp rIsN (tVar 1) (tC .non))) (tNot (tB (tCall (sp_areRight K P w a) [] E0 (tCons (tVar 1) tNil))))) (tRet (tC .non)) tNext)
    (tRet (tMake a.cMessage (sp_mInit K P w a) [] E0 (tCons (tVar 0) (tCons (tVar 1) tNil))))))))
def t_addressFor (K : PySem.W.Frag) (P : Program) (w : World) (a : Ad) : TS :=
  (tSeq (tIfS (tTest (tOp rNe (tFld K (tVar 0) "relay") (tC (.int 0)))) (tRet (tFld K (tVar 0) "relay")) tNext)
    (tSeq (tIfS (tTest (tOp rEq (tVar 1) (tC (.int 6)))) (tRet (tC (.int 4294967295))) tNext)
    (tSeq (tIfS (tTest (tOp rNe (tFld K (tVar 0) "client") (tC (.int 0)))) (tRet (tFld K (tVar 0) "client")) tNext)
    (tSeq (tIfS (tTest (tOp rGe (tCall (sp_numberOf K P w a) [] E0 (tCons (tFld K (tVar 0) "flags") tNil)) (tC (.int 32768)))) (tRet (tC (.int 4294967295))) tNext)
    (tRet (tVar 2))))))
def t_fourBytes (K : PySem.W.Frag) (P : Program) (w : World) (a : Ad) : TS :=
  (tRet (tLst (tCons (tOp rShr (tVar 0) (tC (.int 24))) (tCons (tOp rAnd (tOp rShr (tVar 0) (tC (.int 16))) (tC (.int 255))) (tCons (tOp rAnd (tOp rShr (tVar 0) (tC (.int 8))) (tC (.int 255))) (tCons (tOp rAnd (tVar 0) (tC (.int 255))) tNil))))))
def t_header (K : PySem.W.Frag) (P : Program) (w : World) (a : Ad) : TS :=
  (tSeq (tAsg (tC (.int 0)) (gName 3))
    (tSeq (tIfS (tTest (tOp rEq (tVar 1) (tC (.int 5)))) (tAsg (tFld K (tVar 0) "client") (gName 3)) tNext)
    (tSeq (tAsg (tOp rCat (tOp rCat (tOp rCat (tLst (tCons (tC (.int 2)) (tCons (tC (.int 1)) (tCons (tC (.int 6)) (tCons (tC (.int 0)) tNil))))) (tFld K (tVar 0) "number")) (tLst (tCons (tC (.int 0)) (tCons (tC (.int 0)) tNil)))) (tFld K (tVar 0) "flags")) (gName 4))
    (tSeq (tAsg (tOp rCat (tOp rCat (tOp rCat (tCall (sp_fourBytes K P w a) [] E0 (tCons (tVar 3) tNil)) (tCall (sp_fourBytes K P w a) [] E0 (tCons (tVar 2) tNil))) (tCall (sp_fourBytes K P w a) [] E0 (tCons (tC (.int 0)) tNil))) (tCall (sp_fourBytes K P w a) [] E0 (tCons (tFld K (tVar 0) "relay") tNil))) (gName 5))
    (tRet (tOp rCat (tOp rCat (tOp rCat (tOp rCat (tVar 4) (tVar 5)) (tFld K (tVar 0) "machine")) (tOp rRep (tLst (tCons (tC (.int 0)) tNil)) (tC (.int 192)))) (tCB (rListS K) (tCons (tC (.ref a.kCOOKIE)) tNil))))))))
def t_numberOption (K : PySem.W.Frag) (P : Program) (w : World) (a : Ad) : TS :=
  (tRet (tOp rCat (tLst (tCons (tVar 0) (tCons (tC (.int 4)) tNil))) (tCall (sp_fourBytes K P w a) [] E0 (tCons (tVar 1) tNil))))
def t_optionsOf (K : PySem.W.Frag) (P : Program) (w : World) (a : Ad) : TS :=
  (tSeq (tAsg (tOp rCat (tLst (tCons (tC (.int 53)) (tCons (tC (.int 1)) (tCons (tVar 2) tNil)))) (tCall (sp_numberOption K P w a) [] E0 (tCons (tC (.int 54)) (tCons (tFld K (tVar 0) "server") tNil)))) (gName 4))
    (tSeq (tIfS (tTest (tOp rNe (tVar 3) (tC (.int 0)))) (tSeq (tDrop (tBM K "list" rExtend (tVar 4) (tCons (tCall (sp_numberOption K P w a) [] E0 (tCons (tC (.int 51)) (tCons (tFld K (tVar 0) "how_long") tNil))) tNil)))
    (tSeq (tDrop (tBM K "list" rExtend (tVar 4) (tCons (tCall (sp_numberOption K P w a) [] E0 (tCons (tC (.int 58)) (tCons (tOp rFdiv (tFld K (tVar 0) "how_long") (tC (.int 2))) tNil))) tNil)))
    (tDrop (tBM K "list" rExtend (tVar 4) (tCons (tCall (sp_numberOption K P w a) [] E0 (tCons (tC (.int 59)) (tCons (tOp rMul (tOp rFdiv (tFld K (tVar 0) "how_long") (tC (.int 8))) (tC (.int 7))) tNil))) tNil))))) tNext)
    (tSeq (tIfS (tTest (tOp rNe (tVar 2) (tC (.int 6)))) (tSeq (tDrop (tBM K "list" rExtend (tVar 4) (tCons (tCall (sp_numberOption K P w a) [] E0 (tCons (tC (.int 1)) (tCons (tFld K (tVar 0) "mask") tNil))) tNil)))
    (tSeq (tDrop (tBM K "list" rExtend (tVar 4) (tCons (tCall (sp_numberOption K P w a) [] E0 (tCons (tC (.int 3)) (tCons (tFld K (tVar 0) "way_out") tNil))) tNil)))
    (tDrop (tBM K "list" rExtend (tVar 4) (tCons (tCall (sp_numberOption K P w a) [] E0 (tCons (tC (.int 6)) (tCons (tFld K (tVar 0) "names") tNil))) tNil))))) tNext)
    (tSeq (tIfS (tTest (tOp rNotN (tFld K (tVar 1) "identifier") (tC .non))) (tDrop (tBM K "list" rExtend (tVar 4) (tCons (tOp rCat (tLst (tCons (tC (.int 61)) (tCons (tCB (rLenS K) (tCons (tFld K (tVar 1) "identifier") tNil)) tNil))) (tFld K (tVar 1) "identifier")) tNil))) tNext)
    (tRet (tOp rCat (tVar 4) (tLst (tCons (tC (.int 255)) tNil))))))))
def t_portFor (K : PySem.W.Frag) (P : Program) (w : World) (a : Ad) : TS :=
  (tSeq (tIfS (tTest (tOp rNe (tFld K (tVar 0) "relay") (tC (.int 0)))) (tRet (tC (.int 67))) tNext)
    (tRet (tC (.int 68))))
def t_reply (K : PySem.W.Frag) (P : Program) (w : World) (a : Ad) : TS :=
  (tSeq (tAsg (tOp rCat (tCall (sp_header K P w a) [] E0 (tCons (tVar 1) (tCons (tVar 2) (tCons (tVar 3) tNil)))) (tCall (sp_optionsOf K P w a) [] E0 (tCons (tVar 0) (tCons (tVar 1) (tCons (tVar 2) (tCons (tVar 3) tNil)))))) (gName 4))
    (tSeq (tDrop (tBM K "list" rExtend (tVar 4) (tCons (tOp rRep (tLst (tCons (tC (.int 0)) tNil)) (tOp rSub (tC (.int 300)) (tCB (rLenS K) (tCons (tVar 4) tNil)))) tNil)))
    (tRet (tOp rCat (tLst (tCons (tCB (rLenS K) (tCons (tVar 4) tNil)) (tCons (tCall (sp_addressFor K P w a) [] E0 (tCons (tVar 1) (tCons (tVar 2) (tCons (tVar 3) tNil)))) (tCons (tCall (sp_portFor K P w a) [] E0 (tCons (tVar 1) tNil)) tNil)))) (tVar 4)))))
def t_lInit (K : PySem.W.Frag) (P : Program) (w : World) (a : Ad) : TS :=
  (tSeq (sFld K (tVar 0) (tVar 1) "net")
    (tSeq (sFld K (tVar 0) (tC (.int 0)) "now")
    (sFld K (tVar 0) (tLc (iRng2 (tCons (tFld K (tVar 1) "first") (tCons (tOp rAdd (tFld K (tVar 1) "last") (tC (.int 1))) tNil))) (gName 2) tYes (tMake a.cPlace (sp_pInit K P w a) [] E0 (tCons (tVar 2) tNil)) [2]) "places")))
def t_tick (K : PySem.W.Frag) (P : Program) (w : World) (a : Ad) : TS :=
  (tSeq (tIfS (tTest (tOp rLt (tVar 1) (tFld K (tVar 0) "now"))) (tRet (tLst (tCons (tUn rNeg (tC (.int 1))) tNil))) tNext)
    (tSeq (sFld K (tVar 0) (tVar 1) "now")
    (tRet (tLst (tCons (tC (.int 0)) tNil)))))
def t_lends (K : PySem.W.Frag) (P : Program) (w : World) (a : Ad) : TS :=
  (tRet (tChain rLe rLe (tFld K (tVar 0) "first") (tVar 1) (tFld K (tVar 0) "last")))
def t_placeAt (K : PySem.W.Frag) (P : Program) (w : World) (a : Ad) : TS :=
  (tSeq (tIfS (tOr (tTest (tOp rIsN (tVar 1) (tC .non))) (tNot (tB (tMeth a.cNet "lends" (sp_lends K P w a) [] E0 (tFld K (tVar 0) "net") (tCons (tVar 1) tNil))))) (tRet (tC .non)) tNext)
    (tRet (tOp (rIxL K) (tFld K (tVar 0) "places") (tOp rSub (tVar 1) (tFld K (tFld K (tVar 0) "net") "first")))))
def t_look (K : PySem.W.Frag) (P : Program) (w : World) (a : Ad) : TS :=
  (tSeq (tAsg (tMeth a.cLender "place_at" (sp_placeAt K P w a) [] E0 (tVar 0) (tCons (tVar 1) tNil)) (gName 2))
    (tSeq (tIfS (tTest (tOp rIsN (tVar 2) (tC .non))) (tRet (tLst (tCons (tUn rNeg (tC (.int 1))) tNil))) tNext)
    (tSeq (tAsg (tCB rMax2 (tCons (tOp rSub (tFld K (tVar 2) "till") (tFld K (tVar 0) "now")) (tCons (tC (.int 0)) tNil))) (gName 3))
    (tSeq (tAsg (tFld K (tVar 2) "state") (gName 4))
    (tSeq (tIfS (tB (tMeth a.cPlace "is_free_at" (sp_freeAt K P w a) [] E0 (tVar 2) (tCons (tFld K (tVar 0) "now") tNil))) (tAsg (tC (.int 0)) (gName 4)) tNext)
    (tRet (tOp rCat (tLst (tCons (tVar 4) (tCons (tVar 3) (tCons (tCB (rLenS K) (tCons (tFld K (tVar 2) "owner") tNil)) tNil)))) (tFld K (tVar 2) "owner"))))))))
def t_ownAt (K : PySem.W.Frag) (P : Program) (w : World) (a : Ad) : TS :=
  (tSeq (tAsg (tMeth a.cLender "place_at" (sp_placeAt K P w a) [] E0 (tVar 0) (tCons (tVar 1) tNil)) (gName 3))
    (tSeq (tIfS (tOr (tTest (tOp rIsN (tVar 3) (tC .non))) (tNot (tB (tMeth a.cPlace "is_own_of" (sp_ownOf K P w a) [] E0 (tVar 3) (tCons (tVar 2) tNil))))) (tRet (tC .non)) tNext)
    (tRet (tVar 3))))
def t_decline (K : PySem.W.Frag) (P : Program) (w : World) (a : Ad) : TS :=
  (tSeq (tAsg (tMeth a.cLender "own_at" (sp_ownAt K P w a) [] E0 (tVar 0) (tCons (tFld K (tVar 1) "wanted") (tCons (tFld K (tVar 1) "who") tNil))) (gName 2))
    (tSeq (tIfS (tOr (tTest (tOp rIsN (tVar 2) (tC .non))) (tOr (tTest (tOp rEq (tFld K (tVar 2) "state") (tC (.int 0)))) (tTest (tOp rNe (tFld K (tVar 1) "server") (tFld K (tFld K (tVar 0) "net") "server"))))) tRetN tNext)
    (tDrop (tMeth a.cPlace "turn" (sp_turn K P w a) [] E0 (tVar 2) (tCons (tC (.int 3)) (tCons (tOp rAdd (tFld K (tVar 0) "now") (tC (.int 600))) (tCons (tLst tNil) tNil)))))))
def t_choose (K : PySem.W.Frag) (P : Program) (w : World) (a : Ad) : TS :=
  (tSeq (tAsg (tCall (sp_ownAmong K P w a) [] E0 (tCons (tFld K (tVar 0) "places") (tCons (tFld K (tVar 1) "who") tNil))) (gName 2))
    (tSeq (tIfS (tTest (tOp rNotN (tVar 2) (tC .non))) (tRet (tVar 2)) tNext)
    (tSeq (tAsg (tMeth a.cLender "place_at" (sp_placeAt K P w a) [] E0 (tVar 0) (tCons (tFld K (tVar 1) "wanted") tNil)) (gName 3))
    (tSeq (tIfS (tAnd (tTest (tOp rNotN (tVar 3) (tC .non))) (tB (tMeth a.cPlace "is_free_at" (sp_freeAt K P w a) [] E0 (tVar 3) (tCons (tFld K (tVar 0) "now") tNil)))) (tRet (tVar 3)) tNext)
    (tRet (tCall (sp_oldest K P w a) [] E0 (tCons (tFld K (tVar 0) "places") (tCons (tFld K (tVar 0) "now") tNil))))))))
def t_discover (K : PySem.W.Frag) (P : Program) (w : World) (a : Ad) : TS :=
  (tSeq (tAsg (tMeth a.cLender "choose" (sp_choose K P w a) [] E0 (tVar 0) (tCons (tVar 1) tNil)) (gName 2))
    (tSeq (tIfS (tTest (tOp rIsN (tVar 2) (tC .non))) (tRet (tLst (tCons (tC (.int 0)) tNil))) tNext)
    (tSeq (tIfS (tOr (tTest (tOp rNe (tFld K (tVar 2) "state") (tC (.int 2)))) (tB (tMeth a.cPlace "is_free_at" (sp_freeAt K P w a) [] E0 (tVar 2) (tCons (tFld K (tVar 0) "now") tNil)))) (tDrop (tMeth a.cPlace "turn" (sp_turn K P w a) [] E0 (tVar 2) (tCons (tC (.int 1)) (tCons (tOp rAdd (tFld K (tVar 0) "now") (tC (.int 60))) (tCons (tFld K (tVar 1) "who") tNil))))) tNext)
    (tRet (tCall (sp_reply K P w a) [] E0 (tCons (tFld K (tVar 0) "net") (tCons (tVar 1) (tCons (tC (.int 2)) (tCons (tFld K (tVar 2) "address") tNil)))))))))
def t_release (K : PySem.W.Frag) (P : Program) (w : World) (a : Ad) : TS :=
  (tSeq (tAsg (tMeth a.cLender "own_at" (sp_ownAt K P w a) [] E0 (tVar 0) (tCons (tFld K (tVar 1) "client") (tCons (tFld K (tVar 1) "who") tNil))) (gName 2))
    (tSeq (tIfS (tOr (tTest (tOp rIsN (tVar 2) (tC .non))) (tOr (tTest (tOp rNe (tFld K (tVar 2) "state") (tC (.int 2)))) (tTest (tOp rNe (tFld K (tVar 1) "server") (tFld K (tFld K (tVar 0) "net") "server"))))) tRetN tNext)
    (tDrop (tMeth a.cPlace "turn" (sp_turn K P w a) [] E0 (tVar 2) (tCons (tC (.int 0)) (tCons (tFld K (tVar 0) "now") (tCons (tFld K (tVar 1) "who") tNil)))))))
def t_deny (K : PySem.W.Frag) (P : Program) (w : World) (a : Ad) : TS :=
  (tRet (tCall (sp_reply K P w a) [] E0 (tCons (tFld K (tVar 0) "net") (tCons (tVar 1) (tCons (tC (.int 6)) (tCons (tC (.int 0)) tNil))))))
def t_lend (K : PySem.W.Frag) (P : Program) (w : World) (a : Ad) : TS :=
  (tSeq (tDrop (tMeth a.cPlace "turn" (sp_turn K P w a) [] E0 (tVar 1) (tCons (tC (.int 2)) (tCons (tOp rAdd (tFld K (tVar 0) "now") (tFld K (tFld K (tVar 0) "net") "how_long")) (tCons (tFld K (tVar 2) "who") tNil)))))
    (tRet (tCall (sp_reply K P w a) [] E0 (tCons (tFld K (tVar 0) "net") (tCons (tVar 2) (tCons (tC (.int 5)) (tCons (tFld K (tVar 1) "address") tNil)))))))
def t_reqAgain (K : PySem.W.Frag) (P : Program) (w : World) (a : Ad) : TS :=
  (tSeq (tIfS (tNot (tB (tMeth a.cNet "lends" (sp_lends K P w a) [] E0 (tFld K (tVar 0) "net") (tCons (tFld K (tVar 1) "client") tNil)))) (tRet (tLst (tCons (tC (.int 0)) tNil))) tNext)
    (tSeq (tAsg (tMeth a.cLender "own_at" (sp_ownAt K P w a) [] E0 (tVar 0) (tCons (tFld K (tVar 1) "client") (tCons (tFld K (tVar 1) "who") tNil))) (gName 2))
    (tSeq (tIfS (tOr (tTest (tOp rIsN (tVar 2) (tC .non))) (tTest (tOp rNe (tFld K (tVar 2) "state") (tC (.int 2))))) (tRet (tMeth a.cLender "deny" (sp_deny K P w a) [] E0 (tVar 0) (tCons (tVar 1) tNil))) tNext)
    (tRet (tMeth a.cLender "lend" (sp_lend K P w a) [] E0 (tVar 0) (tCons (tVar 2) (tCons (tVar 1) tNil)))))))
def t_sharesNet (K : PySem.W.Frag) (P : Program) (w : World) (a : Ad) : TS :=
  (tRet (tOp rEq (tOp rAnd (tVar 1) (tFld K (tVar 0) "mask")) (tOp rAnd (tFld K (tVar 0) "server") (tFld K (tVar 0) "mask"))))
def t_reqKnown (K : PySem.W.Frag) (P : Program) (w : World) (a : Ad) : TS :=
  (tSeq (tIfS (tTest (tOp rNe (tFld K (tVar 1) "client") (tC (.int 0)))) (tRet (tLst (tCons (tC (.int 0)) tNil))) tNext)
    (tSeq (tIfS (tAnd (tTest (tOp rEq (tFld K (tVar 1) "relay") (tC (.int 0)))) (tNot (tB (tMeth a.cNet "shares_net" (sp_sharesNet K P w a) [] E0 (tFld K (tVar 0) "net") (tCons (tFld K (tVar 1) "wanted") tNil))))) (tRet (tMeth a.cLender "deny" (sp_deny K P w a) [] E0 (tVar 0) (tCons (tVar 1) tNil))) tNext)
    (tSeq (tIfS (tNot (tB (tMeth a.cNet "lends" (sp_lends K P w a) [] E0 (tFld K (tVar 0) "net") (tCons (tFld K (tVar 1) "wanted") tNil)))) (tRet (tLst (tCons (tC (.int 0)) tNil))) tNext)
    (tSeq (tAsg (tMeth a.cLender "own_at" (sp_ownAt K P w a) [] E0 (tVar 0) (tCons (tFld K (tVar 1) "wanted") (tCons (tFld K (tVar 1) "who") tNil))) (gName 2))
    (tSeq (tIfS (tTest (tOp rNotN (tVar 2) (tC .non))) (tRet (tMeth a.cLender "lend" (sp_lend K P w a) [] E0 (tVar 0) (tCons (tVar 2) (tCons (tVar 1) tNil)))) tNext)
    (tSeq (tIfS (tTest (tOp rNotN (tCall (sp_ownAmong K P w a) [] E0 (tCons (tFld K (tVar 0) "places") (tCons (tFld K (tVar 1) "who") tNil))) (tC .non))) (tRet (tMeth a.cLender "deny" (sp_deny K P w a) [] E0 (tVar 0) (tCons (tVar 1) tNil))) tNext)
    (tRet (tLst (tCons (tC (.int 0)) tNil)))))))))
def t_reqOffered (K : PySem.W.Frag) (P : Program) (w : World) (a : Ad) : TS :=
  (tSeq (tIfS (tOr (tTest (tOp rIsN (tFld K (tVar 1) "wanted") (tC .non))) (tTest (tOp rNe (tFld K (tVar 1) "client") (tC (.int 0))))) (tRet (tLst (tCons (tC (.int 0)) tNil))) tNext)
    (tSeq (tAsg (tMeth a.cLender "own_at" (sp_ownAt K P w a) [] E0 (tVar 0) (tCons (tFld K (tVar 1) "wanted") (tCons (tFld K (tVar 1) "who") tNil))) (gName 2))
    (tSeq (tIfS (tTest (tOp rIsN (tVar 2) (tC .non))) (tRet (tMeth a.cLender "deny" (sp_deny K P w a) [] E0 (tVar 0) (tCons (tVar 1) tNil))) tNext)
    (tRet (tMeth a.cLender "lend" (sp_lend K P w a) [] E0 (tVar 0) (tCons (tVar 2) (tCons (tVar 1) tNil)))))))
def t_takeBack (K : PySem.W.Frag) (P : Program) (w : World) (a : Ad) : TS :=
  (tSeq (tAsg (tCall (sp_ownAmong K P w a) [] E0 (tCons (tFld K (tVar 0) "places") (tCons (tVar 1) tNil))) (gName 2))
    (tIfS (tAnd (tTest (tOp rNotN (tVar 2) (tC .non))) (tTest (tOp rEq (tFld K (tVar 2) "state") (tC (.int 1))))) (tDrop (tMeth a.cPlace "turn" (sp_turn K P w a) [] E0 (tVar 2) (tCons (tC (.int 0)) (tCons (tFld K (tVar 0) "now") (tCons (tVar 1) tNil))))) tNext))
def t_request (K : PySem.W.Frag) (P : Program) (w : World) (a : Ad) : TS :=
  (tSeq (tIfS (tAnd (tTest (tOp rIsN (tFld K (tVar 1) "server") (tC .non))) (tTest (tOp rIsN (tFld K (tVar 1) "wanted") (tC .non)))) (tRet (tMeth a.cLender "request_again" (sp_reqAgain K P w a) [] E0 (tVar 0) (tCons (tVar 1) tNil))) tNext)
    (tSeq (tIfS (tTest (tOp rIsN (tFld K (tVar 1) "server") (tC .non))) (tRet (tMeth a.cLender "request_known" (sp_reqKnown K P w a) [] E0 (tVar 0) (tCons (tVar 1) tNil))) tNext)
    (tSeq (tIfS (tTest (tOp rEq (tFld K (tVar 1) "server") (tFld K (tFld K (tVar 0) "net") "server"))) (tRet (tMeth a.cLender "request_offered" (sp_reqOffered K P w a) [] E0 (tVar 0) (tCons (tVar 1) tNil))) tNext)
    (tSeq (tDrop (tMeth a.cLender "take_back" (sp_takeBack K P w a) [] E0 (tVar 0) (tCons (tFld K (tVar 1) "who") tNil)))
    (tRet (tLst (tCons (tC (.int 0)) tNil)))))))
def t_handle (K : PySem.W.Frag) (P : Program) (w : World) (a : Ad) : TS :=
  (tSeq (tIfS (tTest (tOp rEq (tFld K (tVar 1) "kind") (tC (.int 1)))) (tRet (tMeth a.cLender "discover" (sp_discover K P w a) [] E0 (tVar 0) (tCons (tVar 1) tNil))) tNext)
    (tSeq (tIfS (tTest (tOp rEq (tFld K (tVar 1) "kind") (tC (.int 3)))) (tRet (tMeth a.cLender "request" (sp_request K P w a) [] E0 (tVar 0) (tCons (tVar 1) tNil))) tNext)
    (tSeq (tIfS (tTest (tOp rEq (tFld K (tVar 1) "kind") (tC (.int 4)))) (tDrop (tMeth a.cLender "decline" (sp_decline K P w a) [] E0 (tVar 0) (tCons (tVar 1) tNil))) (tIfS (tTest (tOp rEq (tFld K (tVar 1) "kind") (tC (.int 7)))) (tDrop (tMeth a.cLender "release" (sp_release K P w a) [] E0 (tVar 0) (tCons (tVar 1) tNil))) (tIfS (tAnd (tTest (tOp rEq (tFld K (tVar 1) "kind") (tC (.int 8)))) (tTest (tOp rNe (tFld K (tVar 1) "client") (tC (.int 0))))) (tRet (tCall (sp_reply K P w a) [] E0 (tCons (tFld K (tVar 0) "net") (tCons (tVar 1) (tCons (tC (.int 5)) (tCons (tC (.int 0)) tNil)))))) tNext)))
    (tRet (tLst (tCons (tC (.int 0)) tNil))))))
def t_nInit (K : PySem.W.Frag) (P : Program) (w : World) (a : Ad) : TS :=
  (tSeq (sFld K (tVar 0) (tOp (rIxL K) (tVar 1) (tC (.int 0))) "server")
    (tSeq (sFld K (tVar 0) (tOp (rIxL K) (tVar 1) (tC (.int 1))) "mask")
    (tSeq (sFld K (tVar 0) (tOp (rIxL K) (tVar 1) (tC (.int 2))) "way_out")
    (tSeq (sFld K (tVar 0) (tOp (rIxL K) (tVar 1) (tC (.int 3))) "names")
    (tSeq (sFld K (tVar 0) (tOp (rIxL K) (tVar 1) (tC (.int 4))) "first")
    (tSeq (sFld K (tVar 0) (tOp (rIxL K) (tVar 1) (tC (.int 5))) "how_many")
    (tSeq (sFld K (tVar 0) (tOp (rIxL K) (tVar 1) (tC (.int 6))) "how_long")
    (sFld K (tVar 0) (tOp rSub (tOp rAdd (tFld K (tVar 0) "first") (tFld K (tVar 0) "how_many")) (tC (.int 1))) "last"))))))))
def t_isMask (K : PySem.W.Frag) (P : Program) (w : World) (a : Ad) : TS :=
  (tSeq (tAsg (tOp rSub (tC (.int 4294967295)) (tVar 0)) (gName 1))
    (tRet (tOp rEq (tOp rAnd (tVar 1) (tOp rAdd (tVar 1) (tC (.int 1)))) (tC (.int 0)))))
def t_isRight (K : PySem.W.Frag) (P : Program) (w : World) (a : Ad) : TS :=
  (tSeq (tIfS (tOr (tTest (tOp rEq (tFld K (tVar 0) "server") (tC (.int 0)))) (tOr (tTest (tOp rEq (tFld K (tVar 0) "first") (tC (.int 0)))) (tNot (tB (tCall (sp_isMask K P w a) [] E0 (tCons (tFld K (tVar 0) "mask") tNil)))))) (tRet (tC (.bl false))) tNext)
    (tSeq (tIfS (tNot (tTest (tChain rLe rLe (tC (.int 1)) (tFld K (tVar 0) "how_many") (tC (.int 256))))) (tRet (tC (.bl false))) tNext)
    (tSeq (tIfS (tNot (tTest (tChain rLe rLe (tC (.int 60)) (tFld K (tVar 0) "how_long") (tC (.int 31536000))))) (tRet (tC (.bl false))) tNext)
    (tSeq (tIfS (tOr (tTest (tOp rGt (tFld K (tVar 0) "last") (tC (.int 4294967295)))) (tB (tMeth a.cNet "lends" (sp_lends K P w a) [] E0 (tVar 0) (tCons (tFld K (tVar 0) "server") tNil)))) (tRet (tC (.bl false))) tNext)
    (tRet (tAndV (tMeth a.cNet "shares_net" (sp_sharesNet K P w a) [] E0 (tVar 0) (tCons (tFld K (tVar 0) "first") tNil)) (tMeth a.cNet "shares_net" (sp_sharesNet K P w a) [] E0 (tVar 0) (tCons (tFld K (tVar 0) "last") tNil))))))))
def t_dInit (K : PySem.W.Frag) (P : Program) (w : World) (a : Ad) : TS :=
  (sFld K (tVar 0) (tC .non) "lender")
def t_begin (K : PySem.W.Frag) (P : Program) (w : World) (a : Ad) : TS :=
  (tSeq (tAsg (tMake a.cNet (sp_nInit K P w a) [] E0 (tCons (tVar 1) tNil)) (gName 2))
    (tSeq (tIfS (tNot (tB (tMeth a.cNet "is_right" (sp_isRight K P w a) [] E0 (tVar 2) tNil))) (tSeq (sFld K (tVar 0) (tC .non) "lender")
    (tRet (tLst (tCons (tUn rNeg (tC (.int 1))) tNil)))) tNext)
    (tSeq (sFld K (tVar 0) (tMake a.cLender (sp_lInit K P w a) [] E0 (tCons (tVar 2) tNil)) "lender")
    (tRet (tLst (tCons (tC (.int 0)) tNil))))))
def t_take (K : PySem.W.Frag) (P : Program) (w : World) (a : Ad) : TS :=
  (tSeq (tIfS (tTest (tOp rGt (tCB (rLenS K) (tCons (tVar 1) tNil)) (tC (.int 1500)))) (tRet (tLst (tCons (tUn rNeg (tC (.int 1))) tNil))) tNext)
    (tSeq (tAsg (tCall (sp_readMessage K P w a) [] E0 (tCons (tVar 1) tNil)) (gName 2))
    (tSeq (tIfS (tTest (tOp rIsN (tVar 2) (tC .non))) (tRet (tLst (tCons (tUn rNeg (tC (.int 2))) tNil))) tNext)
    (tRet (tMeth a.cLender "handle" (sp_handle K P w a) [] E0 (tFld K (tVar 0) "lender") (tCons (tVar 2) tNil))))))
def t_respond (K : PySem.W.Frag) (P : Program) (w : World) (a : Ad) : TS :=
  (tSeq (tIfS (tTest (tOp rEq (tVar 1) (tC (.int 0)))) (tRet (tMeth a.cDesk "begin" (sp_begin K P w a) [] E0 (tVar 0) (tCons (tVar 2) tNil))) tNext)
    (tSeq (tIfS (tTest (tOp rIsN (tFld K (tVar 0) "lender") (tC .non))) (tRet (tLst (tCons (tUn rNeg (tC (.int 3))) tNil))) tNext)
    (tSeq (tIfS (tTest (tOp rEq (tVar 1) (tC (.int 1)))) (tRet (tMeth a.cDesk "take" (sp_take K P w a) [] E0 (tVar 0) (tCons (tVar 2) tNil))) tNext)
    (tSeq (tIfS (tTest (tOp rEq (tVar 1) (tC (.int 2)))) (tRet (tMeth a.cLender "tick" (sp_tick K P w a) [] E0 (tFld K (tVar 0) "lender") (tCons (tOp (rIxL K) (tVar 2) (tC (.int 0))) tNil))) tNext)
    (tRet (tMeth a.cLender "look" (sp_look K P w a) [] E0 (tFld K (tVar 0) "lender") (tCons (tOp (rIxL K) (tVar 2) (tC (.int 0))) tNil)))))))
def t_answers (K : PySem.W.Frag) (P : Program) (w : World) (a : Ad) : TS :=
  (tSeq (tAsg (tMake a.cDesk (sp_dInit K P w a) [] E0 tNil) (gName 1))
    (tSeq (tAsg (tLst tNil) (gName 2))
    (tSeq (tAsg (tC (.int 0)) (gName 3))
    (tSeq (tWhile (tTest (tOp rLt (tVar 3) (tCB (rLenS K) (tCons (tVar 0) tNil)))) (tSeq (tAsg (tOp (rIxL K) (tVar 0) (tVar 3)) (gName 4))
    (tSeq (tAsg (tOp rAdd (tVar 3) (tC (.int 1))) (gName 5))
    (tSeq (tAsg (tOp rAdd (tVar 3) (tC (.int 2))) (gName 6))
    (tSeq (tIfS (tOr (tTest (tOp rEq (tVar 4) (tC (.int 0)))) (tTest (tOp rEq (tVar 4) (tC (.int 1))))) (tSeq (tAsg (tOp rAdd (tVar 3) (tC (.int 2))) (gName 5))
    (tAsg (tOp rAdd (tVar 5) (tOp (rIxL K) (tVar 0) (tOp rAdd (tVar 3) (tC (.int 1))))) (gName 6))) tNext)
    (tSeq (tAsg (tMeth a.cDesk "respond" (sp_respond K P w a) [] E0 (tVar 1) (tCons (tVar 4) (tCons (tSl (rSlL K) (tVar 0) (tPart (tVar 5)) (tPart (tVar 6))) tNil))) (gName 7))
    (tSeq (tDrop (tBM K "list" rAppend (tVar 2) (tCons (tCB (rLenS K) (tCons (tVar 7) tNil)) tNil)))
    (tSeq (tDrop (tBM K "list" rExtend (tVar 2) (tCons (tVar 7) tNil)))
    (tAsg (tVar 6) (gName 3))))))))))
    (tRet (tVar 2))))))
end Lp
namespace Lp
open PySem PySem.Spec PyProof.Rows L2 Evl
/-! ### stores to one object -/
theorem Kept.trans {p : Addr} {H H1 H2 : Hp} (x : Kept p H H1) (y : Kept p H1 H2) : Kept p H H2 := fun b o e hb => y b o (x b o e hb) hb
theorem Kept.lst {p l C dx : Addr} {H H1 : Hp} {fs : List (Str × V)} {xs : List V} (x : Kept p H H1) (hp : H p = some (.ins C dx fs)) (h : H l = some (.lst xs)) : H1 l = some (.lst xs) :=
  x l _ h (ne_of h hp (fun z => by cases z))
theorem Kept.dk {p l C dx : Addr} {H H1 : Hp} {fs : List (Str × V)} {xs : List (Key × V)} (x : Kept p H H1) (hp : H p = some (.ins C dx fs)) (h : H l = some (.dK xs)) : H1 l = some (.dK xs) :=
  x l _ h (ne_of h hp (fun z => by cases z))
theorem Kept.opts {p C dx d : Addr} {H H1 : Hp} {fs : List (Str × V)} {o : List (Nat × Sd22.Bytes)} (x : Kept p H H1) (hp : H p = some (.ins C dx fs)) (h : OptsAt H d o) : OptsAt H1 d o :=
  let ⟨as, h1, h2, h3⟩ := h; ⟨as, h1, x.dk hp h2, fun i y q a b => x.lst hp (h3 i y q a b)⟩
theorem Kept.tab {a : Ad} {p C dx : Addr} {H H1 : Hp} {fs : List (Str × V)} (x : Kept p H H1) (hp : H p = some (.ins C dx fs)) (h : TabAt a H) : TabAt a H1 := by
  obtain ⟨ps, h1, h2, h3⟩ := h
  refine ⟨ps, x _ _ h1 (ne_of h1 hp (fun z => by cases z)), h2, fun pos cv hc => ?_⟩
  obtain ⟨c, e1, e2⟩ := h3 pos cv hc
  exact ⟨c, e1, x _ _ e2 (ne_of e2 hp (fun z => by unfold LamX.CodeO at z; cases z))⟩
section
variable {K : PySem.W.Frag} {σ : L2.St} {H : Hp} {to tv : TE} {D : Ends} {p C dx : Addr} {fs : List (Str × V)} {f : Str} {v : V}
theorem st_put (hv : Ev tv σ H v) (ho : Ev to σ H (.ref p)) (hp : H p = some (.ins C dx fs)) (c : Cls K C) (n : NoAttr K C f) (hl : Nat.ble fs.length 20 = true)
    (k : ∀ H1, Kept p H H1 → H1 p = some (.ins C dx (putF f v fs)) → D.nx σ H1) : sFld K to tv f D σ H :=
  hv H (Ex.refl _) _ fun H1 e1 => ho H1 e1 _ fun H2 e2 => ⟨p, C, dx, fs, rfl, e2 _ _ (e1 _ _ hp), c, n, Nat.lt_of_le_of_lt (Nat.le_of_ble_eq_true hl) (by decide), k _ (fun b o e hb => by rw [upd_ne hb]; exact e2 _ _ (e1 _ _ e)) upd_same⟩
theorem st_putG {xs : List V} (hv : EG tv σ H xs) (ho : Ev to σ H (.ref p)) (hp : H p = some (.ins C dx fs)) (c : Cls K C) (n : NoAttr K C f) (hl : Nat.ble fs.length 20 = true)
    (k : ∀ l H1, Kept p H H1 → H1 p = some (.ins C dx (putF f (.ref l) fs)) → H1 l = some (.lst xs) → D.nx σ H1) : sFld K to tv f D σ H :=
  hv H (Ex.refl _) _ fun l H1 e1 h1 => ho H1 e1 _ fun H2 e2 => ⟨p, C, dx, fs, rfl, e2 _ _ (e1 _ _ hp), c, n, Nat.lt_of_le_of_lt (Nat.le_of_ble_eq_true hl) (by decide), k l _ (fun b o e hb => by rw [upd_ne hb]; exact e2 _ _ (e1 _ _ e)) upd_same
    (by rw [upd_ne (ne_of (e2 _ _ h1) (e2 _ _ (e1 _ _ hp)) (fun z => by cases z))]; exact e2 _ _ h1)⟩
theorem st_putL {xs : List V} (hv : EvL tv σ H xs) (ho : Ev to σ H (.ref p)) (hp : H p = some (.ins C dx fs)) (c : Cls K C) (n : NoAttr K C f) (hl : Nat.ble fs.length 20 = true)
    (k : ∀ l H1, H l = none → Kept p H H1 → H1 p = some (.ins C dx (putF f (.ref l) fs)) → H1 l = some (.lst xs) → D.nx σ H1) : sFld K to tv f D σ H :=
  hv H (Ex.refl _) _ fun l H1 l0 e1 h1 => ho H1 e1 _ fun H2 e2 => ⟨p, C, dx, fs, rfl, e2 _ _ (e1 _ _ hp), c, n, Nat.lt_of_le_of_lt (Nat.le_of_ble_eq_true hl) (by decide), k l _ l0 (fun b o e hb => by rw [upd_ne hb]; exact e2 _ _ (e1 _ _ e)) upd_same
    (by rw [upd_ne (ne_of (e2 _ _ h1) (e2 _ _ (e1 _ _ hp)) (fun z => by cases z))]; exact e2 _ _ h1)⟩
end
section
variable {P : Program} {w : World} {K : PySem.W.Frag} {mg : Str → Option Value} {base : Heap} {a : Ad}
theorem eg_nil {σ : L2.St} {H : Hp} : EG (tLst tNil) σ H [] := eg_new (el_lst ea_nil (by decide))
/-! ### Place -/
theorem pure_pInit (T : Txt P w K mg base a) (vs : List V) (H : Hp) (Q : VK) (E : XK) (h : sp_pInit K P w a vs H Q E) : t_pInit K P w a { nx := fun _ H' => Q .non H', rt := Q } (start ["self", "address"] vs) H := by
  obtain ⟨p, dx, ad, rfl, hp, k⟩ := h
  refine st_put (v := .int ad) (ev_var rfl) (ev_var rfl) hp T.c_Place T.n_Place_address rfl fun H1 k1 h1 => ?_
  rw [placeF_b0] at h1
  refine st_put ev_c (ev_var rfl) h1 T.c_Place T.n_Place_state rfl fun H2 k2 h2 => ?_
  rw [placeF_b1] at h2
  refine st_put ev_c (ev_var rfl) h2 T.c_Place T.n_Place_till rfl fun H3 k3 h3 => ?_
  rw [placeF_b2] at h3
  refine st_putL (el_lst ea_nil (by decide)) (ev_var rfl) h3 T.c_Place T.n_Place_owner rfl fun l H4 l0 k4 h4 hl => ?_
  rw [placeF_b3] at h4
  have k3' := (k1.trans k2).trans k3
  refine k H4 ⟨dx, l, ?_, h4, hl⟩ (k3'.trans k4)
  cases q : H l with
  | none => rfl
  | some o =>
    have ne : l ≠ p := by
      rintro rfl
      rw [h3] at l0
      cases l0
    rw [k3' l o q ne] at l0
    cases l0
theorem pure_turn (T : Txt P w K mg base a) (vs : List V) (H : Hp) (Q : VK) (E : XK) (h : sp_turn K P w a vs H Q E) : t_turn K P w a { nx := fun _ H' => Q .non H', rt := Q } (start ["self", "state", "till", "owner"] vs) H := by
  obtain ⟨p, ad, ls, st, t, o, who, rfl, ⟨dx, o0, hp, _⟩, ho, k⟩ := h
  refine st_put (v := .int st) (ev_var rfl) (ev_var rfl) hp T.c_Place T.n_Place_state rfl fun H1 k1 h1 => ?_
  rw [placeF_p_state] at h1
  refine st_put (v := .int t) (ev_var rfl) (ev_var rfl) h1 T.c_Place T.n_Place_till rfl fun H2 k2 h2 => ?_
  rw [placeF_p_till] at h2
  refine st_put (v := .ref o) (ev_var rfl) (ev_var rfl) h2 T.c_Place T.n_Place_owner rfl fun H3 k3 h3 => ?_
  rw [placeF_p_owner] at h3
  exact k H3 ⟨dx, o, h3, ((k1.trans k2).trans k3).lst hp ho⟩ ((k1.trans k2).trans k3)
theorem pure_freeAt (T : Txt P w K mg base a) (vs : List V) (H : Hp) (Q : VK) (E : XK) (h : sp_freeAt K P w a vs H Q E) : t_freeAt K P w a { nx := fun _ H' => Q .non H', rt := Q } (start ["self", "now"] vs) H := by
  obtain ⟨p, ad, ls, now, rfl, ⟨dx, o, hp, _⟩, k⟩ := h
  refine s_ret (v := .bl (freeL now ls)) (ev_is (ev_orV (ev_eq (ef_Place_state T (ev_var rfl) hp) ev_c rfl) fun _ => ev_I (ef_Place_till T (ev_var rfl) hp) (ev_var rfl)) ?_) k
  have e1 : decide (V.int (ls.state : Int) = V.int 0) = (ls.state == 0) := by
    by_cases c : ls.state = 0
    · rw [c]; rfl
    · rw [decide_eq_false (by intro z; injection z with z; omega), beq_eq_false_iff_ne.mpr c]
  have e2 : decide ((ls.until_ : Int) ≤ (now : Int)) = decide (ls.until_ ≤ now) := by
    by_cases c : ls.until_ ≤ now
    · rw [decide_eq_true c, decide_eq_true (by omega)]
    · rw [decide_eq_false c, decide_eq_false (by omega)]
  unfold freeL
  rw [e1, e2]
/-! ### lists compared -/
def pd (l : List Nat) : List PyData := l.map fun n : Nat => PyData.int (n : Int)
theorem dp_all : ∀ (l : List Nat) (H : Hp), DpAll K H (iv l) (pd l)
  | [], _ => .nil
  | n :: l, H => .cons (.int _) (dp_all l H)
theorem dp_l {l : Addr} {H : Hp} {bs : List Nat} (h : H l = some (.lst (iv bs))) : Dp K H (.ref l) (.list (pd bs)) := .lst (SqL.of h) (dp_all _ _)
theorem pd_lay : ∀ l : List Nat, PyData.canLayAll0 (pd l) = true
  | [] => rfl
  | n :: l => by
    show (PyData.canLay0 (.int n) && PyData.canLayAll0 (pd l)) = true
    rw [pd_lay l]
    rfl
theorem pd_depth : ∀ l : List Nat, PyData.depthAll (pd l) ≤ 1
  | [] => Nat.zero_le _
  | n :: l => by
    have z := pd_depth l
    have e : PyData.depthAll (pd (n :: l)) = max (PyData.depth (.int n)) (PyData.depthAll (pd l)) := rfl
    rw [e]
    have e2 : PyData.depth (.int n) ≤ 1 := by first | exact Nat.le_refl 1 | exact Nat.zero_le 1
    omega
theorem pd_shaped (l : List Nat) : SeqAt.shaped (.list (pd l)) = true := by
  unfold SeqAt.shaped
  have e : PyData.canLay0 (.list (pd l)) = true := pd_lay l
  have z := pd_depth l
  have e2 : PyData.depth (.list (pd l)) = PyData.depthAll (pd l) + 1 := by first | rfl | (simp [PyData.depth]; omega)
  rw [e, Bool.true_and, decide_eq_true_eq, e2]
  omega
theorem pd_eqvs : ∀ x y : List Nat, PyData.eqvAll (pd x) (pd y) = (x == y)
  | [], [] => rfl
  | [], _ :: _ => rfl
  | _ :: _, [] => rfl
  | n :: x, m :: y => by
    show (((n : Int) == (m : Int)) && PyData.eqvAll (pd x) (pd y)) = ((n == m) && (x == y))
    rw [pd_eqvs x y]
    have e : ((n : Int) == (m : Int)) = (n == m) := by
      by_cases c : n = m
      · rw [c, beq_self_eq_true, beq_self_eq_true]
      · rw [beq_eq_false_iff_ne.mpr c, beq_eq_false_iff_ne.mpr (by omega)]
    rw [e]
theorem pd_eqv (x y : List Nat) : PyData.eqv (.list (pd x)) (.list (pd y)) = (x == y) := pd_eqvs x y
theorem Dp.exs {K : PySem.W.Frag} {H H' : Hp} (e : Ex H H') {l : Addr} {bs : List Nat} (h : H l = some (.lst (iv bs))) : Dp K H' (.ref l) (.list (pd bs)) := dp_l (e _ _ h)
theorem ev_eqD {σ : L2.St} {H : Hp} {ta tb : TE} {x y : List Nat} (ha : EG ta σ H (iv x)) (hb : EG tb σ H (iv y)) : Ev (tOp (rEqD K) ta tb) σ H (.bl (x == y)) := fun H1 e Q q =>
  ha H1 e _ fun p H2 e2 hp => hb H2 (e.trans e2) _ fun r H3 e3 hr => ⟨_, _, dp_l (e3 _ _ hp), dp_l hr, pd_shaped _, pd_shaped _, by rw [pd_eqv]; exact q H3 (e2.trans e3)⟩
theorem ev_neD {σ : L2.St} {H : Hp} {ta tb : TE} {x y : List Nat} (ha : EG ta σ H (iv x)) (hb : EG tb σ H (iv y)) : Ev (tOp (rNeD K) ta tb) σ H (.bl (!(x == y))) := fun H1 e Q q =>
  ha H1 e _ fun p H2 e2 hp => hb H2 (e.trans e2) _ fun r H3 e3 hr => ⟨_, _, dp_l (e3 _ _ hp), dp_l hr, pd_shaped _, pd_shaped _, by rw [pd_eqv]; exact q H3 (e2.trans e3)⟩
theorem pure_ownOf (T : Txt P w K mg base a) (vs : List V) (H : Hp) (Q : VK) (E : XK) (h : sp_ownOf K P w a vs H Q E) : t_ownOf K P w a { nx := fun _ H' => Q .non H', rt := Q } (start ["self", "who"] vs) H := by
  obtain ⟨p, ad, ls, o, who, rfl, ⟨dx, o0, hp, ho0⟩, ho, k⟩ := h
  exact s_ret (ev_eqD (eg_ref (ef_Place_owner T (ev_var rfl) hp) ho0) (eg_ref (ev_var rfl) ho)) k
theorem ownIx_at {L : List Sd22.Lease} {who : Sd22.Bytes} {i : Nat} {ls : Sd22.Lease} (h : L[i]? = some ls) (hb : ∀ j x, j < i → L[j]? = some x → (x.who == who) = false) (e : (ls.who == who) = true) : ownIx L who = some i := by
  unfold ownIx
  rw [List.findIdx?_eq_some_iff_getElem]
  obtain ⟨hi, rfl⟩ := List.getElem?_eq_some_iff.mp h
  exact ⟨hi, e, fun j hj => by
    have z := hb j _ hj (List.getElem?_eq_getElem (Nat.lt_trans hj hi))
    rw [z]
    decide⟩
theorem ownIx_no {L : List Sd22.Lease} {who : Sd22.Bytes} (hb : ∀ (j : Nat) x, L[j]? = some x → (x.who == who) = false) : ownIx L who = none := by
  unfold ownIx
  rw [List.findIdx?_eq_none_iff]
  intro x hx
  obtain ⟨j, hj⟩ := List.getElem?_of_mem hx
  exact hb j x hj
theorem atIx_some {as : List Addr} {i : Nat} {p : Addr} (h : as[i]? = some p) : atIx as (some i) = .ref p := by
  show V.ref (as.getD i 0) = V.ref p
  rw [List.getD_eq_getElem?_getD, h]
  rfl
theorem pure_ownAmong (T : Txt P w K mg base a) (vs : List V) (H : Hp) (Q : VK) (E : XK) (h : sp_ownAmong K P w a vs H Q E) : t_ownAmong K P w a { nx := fun _ H' => Q .non H', rt := Q } (start ["places", "who", "place"] vs) H := by
  obtain ⟨l, as, f, L, o, who, rfl, hP, ho, k⟩ := h
  refine s_forL (a := l) (xs := as.map V.ref) (ev_var rfl) (SqL.of hP.1) (fun i σ H' => ∃ v, σ = [some (.ref l), some (.ref o), v] ∧ Ex H H' ∧ ∀ (j : Nat) x, j < i → L[j]? = some x → (x.who == who) = false)
    (fun H1 e => ⟨none, rfl, e, fun j x hj => absurd hj (Nat.not_lt_zero _)⟩) (fun i σ' H' _ ⟨v, _, e, _⟩ => ex_l e (SqL.of hP.1)) ?_ ?_
  · rintro i x σ' H' hx ⟨v, rfl, e, hno⟩
    rw [List.getElem?_map] at hx
    obtain ⟨p, hp, rfl⟩ := Option.map_eq_some_iff.mp hx
    obtain ⟨ls, hls⟩ : ∃ ls, L[i]? = some ls := by
      have z := (List.getElem?_eq_some_iff.mp hp).1
      rw [hP.2.1] at z
      exact ⟨_, List.getElem?_eq_getElem z⟩
    have hpl := (hP.2.2.2 i p ls hp hls).ex e
    obtain ⟨dx, o1, h1, h2⟩ := id hpl
    refine s_if (b := (ls.who == who)) (et_B (ev_meth (ev_var rfl) h1 placeF_m_is_own_of (ea_cons (x := V.ref o) (ev_var rfl) ea_nil) (spv_ownOf hpl (e _ _ ho)))) (fun hb H1 e1 => ?_) (fun hb H1 e1 => ?_)
    · refine s_ret (v := .ref p) (ev_var rfl) fun H2 e2 => ?_
      have z := k H2 ((e.trans e1).trans e2)
      rw [ownIx_at hls hno hb] at z
      rw [atIx_some hp] at z
      exact z
    · refine ⟨_, rfl, e.trans e1, fun j y hj hy => ?_⟩
      by_cases c : j = i
      · subst c
        rw [hls] at hy
        cases hy
        exact hb
      · exact hno j y (by omega) hy
  · rintro σ' H' ⟨v, rfl, e, hno⟩
    show Q .non H'
    have z := k H' e
    rw [ownIx_no (fun j x hx => hno j x (by rw [List.length_map, hP.2.1]; exact (List.getElem?_eq_some_iff.mp hx).1) hx)] at z
    exact z
/-! ### numbers of bytes -/
theorem high_more (l : List Nat) (x : Nat) : Sd22.high (l ++ [x]) = 256 * Sd22.high l + x := by
  unfold Sd22.high
  rw [List.foldl_append]
  rfl
theorem high_from : ∀ (l : List Nat) (acc : Nat), B256 l → l.foldl (fun n c => 256 * n + c) acc < (acc + 1) * 256 ^ l.length
  | [], acc, _ => by
    show acc < (acc + 1) * 1
    omega
  | x :: l, acc, h => by
    have h1 := high_from l (256 * acc + x) fun y hy => h y (List.mem_cons_of_mem _ hy)
    have h2 := h x List.mem_cons_self
    have h3 : (256 * acc + x + 1) * 256 ^ l.length ≤ (acc + 1) * 256 ^ (l.length + 1) := by
      rw [Nat.pow_succ, Nat.mul_comm (256 ^ l.length) 256, ← Nat.mul_assoc]
      exact Nat.mul_le_mul_right _ (by omega)
    exact Nat.lt_of_lt_of_le h1 h3
theorem high_lt (l : List Nat) (h : B256 l) : Sd22.high l < 256 ^ l.length := by
  have z := high_from l 0 h
  rw [Nat.zero_add, Nat.one_mul] at z
  exact z
theorem take_snoc {α : Type} : ∀ {l : List α} {i : Nat} {x : α}, l[i]? = some x → l.take (i + 1) = l.take i ++ [x] := fun {l i x} h => by
  rw [List.take_succ, h]
  rfl
theorem pure_numberOf (T : Txt P w K mg base a) (vs : List V) (H : Hp) (Q : VK) (E : XK) (h : sp_numberOf K P w a vs H Q E) : t_numberOf K P w a { nx := fun _ H' => Q .non H', rt := Q } (start ["digits", "number", "digit"] vs) H := by
  obtain ⟨l, bs, rfl, hl, h4, hb, k⟩ := h
  refine q_asg ev_c fun H1 e1 => ?_
  refine s_forL (a := l) (xs := iv bs) (ev_var rfl) (SqL.of (e1 _ _ hl)) (fun i σ H' => ∃ v, σ = [some (.ref l), some (.int (Sd22.high (bs.take i) : Nat)), v] ∧ Ex H H')
    (fun H2 e2 => ⟨none, rfl, e1.trans e2⟩) (fun i σ' H' _ ⟨v, _, e⟩ => ex_l e (SqL.of hl)) ?_ ?_
  · rintro i x σ' H' hx ⟨v, rfl, e⟩
    unfold iv at hx
    rw [List.getElem?_map] at hx
    obtain ⟨n, hn, rfl⟩ := Option.map_eq_some_iff.mp hx
    have z := high_lt (bs.take i) fun y hy => hb y (List.mem_of_mem_take hy)
    have z2 : (256 : Nat) ^ (bs.take i).length ≤ 256 ^ 4 := Nat.pow_le_pow_right (by decide) (by rw [List.length_take]; omega)
    have z3 : Sd22.high (bs.take i) < 4294967296 := Nat.lt_of_lt_of_le z z2
    refine s_asg (ev_I (ev_IC (ev_var rfl) ev_c (.inl ⟨by omega, by omega⟩)) (ev_var rfl)) fun H2 e2 => ⟨some (.int n), ?_, e.trans e2⟩
    rw [take_snoc hn, high_more]
    show [some (V.ref l), some (V.int ((Sd22.high (bs.take i) : Int) * 256 + n)), some (V.int n)] = _
    have e3 : ((Sd22.high (bs.take i) : Int) * 256 + n) = ((256 * Sd22.high (bs.take i) + n : Nat) : Int) := by
      rw [Int.natCast_add, Int.natCast_mul, Int.mul_comm]
      rfl
    rw [e3]
  · rintro σ' H' ⟨v, rfl, e⟩
    have e3 : bs.take (iv bs).length = bs := by rw [iv_len, List.take_length]
    rw [e3]
    exact s_ret (ev_var rfl) fun H2 e2 => k H2 (e.trans e2)
end
end Lp
namespace Lp
open PySem PySem.Spec PyProof.Rows L2 Evl
/-! ### Net -/
theorem and_nat (x y : Nat) : Builtin.bitAnd (x : Int) (y : Int) = ((Nat.land x y : Nat) : Int) := by
  rw [PyProof.Rows.bitAnd_pp (Int.natCast_nonneg x) (Int.natCast_nonneg y), Int.toNat_natCast, Int.toNat_natCast]
  rfl
theorem int_eq_nat {x y : Nat} : decide (V.int (x : Int) = V.int (y : Int)) = (x == y) := by
  by_cases c : x = y
  · rw [c, beq_self_eq_true]
    exact decide_eq_true rfl
  · rw [beq_eq_false_iff_ne.mpr c]
    exact decide_eq_false (by intro z; injection z with z; omega)
theorem int_le_nat {x y : Nat} : decide ((x : Int) ≤ (y : Int)) = decide (x ≤ y) := decide_eq_decide.mpr Int.ofNat_le
theorem int_lt_nat {x y : Nat} : decide ((x : Int) < (y : Int)) = decide (x < y) := decide_eq_decide.mpr Int.ofNat_lt
section
variable {P : Program} {w : World} {K : PySem.W.Frag} {mg : Str → Option Value} {base : Heap} {a : Ad}
theorem ev_ixL {σ : L2.St} {H : Hp} {ta tb : TE} {l : Addr} {xs : List V} {i : Nat} {v : V} (ha : Ev ta σ H (.ref l)) (hl : SqL K H l xs) (hb : Ev tb σ H (.int (i : Int))) (h : xs[i]? = some v) : Ev (tOp (rIxL K) ta tb) σ H v :=
  ev_op ha hb (rv_ixL hl (atI_nat h))
theorem pure_nInit (T : Txt P w K mg base a) (vs : List V) (H : Hp) (Q : VK) (E : XK) (h : sp_nInit K P w a vs H Q E) : t_nInit K P w a { nx := fun _ H' => Q .non H', rt := Q } (start ["self", "numbers"] vs) H := by
  obtain ⟨n, dx, l, ns, rfl, hp, hl, h7, k⟩ := h
  obtain ⟨x0, x1, x2, x3, x4, x5, x6, rfl⟩ : ∃ x0 x1 x2 x3 x4 x5 x6, ns = [x0, x1, x2, x3, x4, x5, x6] := by
    match ns, h7 with
    | [x0, x1, x2, x3, x4, x5, x6], _ => exact ⟨x0, x1, x2, x3, x4, x5, x6, rfl⟩
  refine st_put (v := .int x0) (ev_ixL (l := l) (i := 0) (ev_var rfl) (SqL.of hl) ev_c rfl) (ev_var rfl) hp T.c_Net T.n_Net_server rfl fun H1 k1 h1 => ?_
  rw [netF_b0] at h1
  refine st_put (v := .int x1) (ev_ixL (l := l) (i := 1) (ev_var rfl) (SqL.of (k1.lst hp hl)) ev_c rfl) (ev_var rfl) h1 T.c_Net T.n_Net_mask rfl fun H2 k2 h2 => ?_
  rw [netF_b1] at h2
  replace k2 := k1.trans k2
  refine st_put (v := .int x2) (ev_ixL (l := l) (i := 2) (ev_var rfl) (SqL.of (k2.lst hp hl)) ev_c rfl) (ev_var rfl) h2 T.c_Net T.n_Net_way_out rfl fun H3 k3 h3 => ?_
  rw [netF_b2] at h3
  replace k3 := k2.trans k3
  refine st_put (v := .int x3) (ev_ixL (l := l) (i := 3) (ev_var rfl) (SqL.of (k3.lst hp hl)) ev_c rfl) (ev_var rfl) h3 T.c_Net T.n_Net_names rfl fun H4 k4 h4 => ?_
  rw [netF_b3] at h4
  replace k4 := k3.trans k4
  refine st_put (v := .int x4) (ev_ixL (l := l) (i := 4) (ev_var rfl) (SqL.of (k4.lst hp hl)) ev_c rfl) (ev_var rfl) h4 T.c_Net T.n_Net_first rfl fun H5 k5 h5 => ?_
  rw [netF_b4] at h5
  replace k5 := k4.trans k5
  refine st_put (v := .int x5) (ev_ixL (l := l) (i := 5) (ev_var rfl) (SqL.of (k5.lst hp hl)) ev_c rfl) (ev_var rfl) h5 T.c_Net T.n_Net_how_many rfl fun H6 k6 h6 => ?_
  rw [netF_b5] at h6
  replace k6 := k5.trans k6
  refine st_put (v := .int x6) (ev_ixL (l := l) (i := 6) (ev_var rfl) (SqL.of (k6.lst hp hl)) ev_c rfl) (ev_var rfl) h6 T.c_Net T.n_Net_how_long rfl fun H7 k7 h7 => ?_
  rw [netF_b6] at h7
  replace k7 := k6.trans k7
  have f4 : List.lookup ("first" : Str) [(("server" : Str), V.int x0), ("mask", V.int x1), ("way_out", V.int x2), ("names", V.int x3), ("first", V.int x4), ("how_many", V.int x5), ("how_long", V.int x6)] = some (V.int x4) :=
    (lk_n (by decide +kernel)).trans ((lk_n (by decide +kernel)).trans ((lk_n (by decide +kernel)).trans ((lk_n (by decide +kernel)).trans lk_h)))
  have f5 : List.lookup ("how_many" : Str) [(("server" : Str), V.int x0), ("mask", V.int x1), ("way_out", V.int x2), ("names", V.int x3), ("first", V.int x4), ("how_many", V.int x5), ("how_long", V.int x6)] = some (V.int x5) :=
    (lk_n (by decide +kernel)).trans ((lk_n (by decide +kernel)).trans ((lk_n (by decide +kernel)).trans ((lk_n (by decide +kernel)).trans ((lk_n (by decide +kernel)).trans lk_h))))
  have s7 : Ev (tVar 0) (start ["self", "numbers"] [V.ref n, V.ref l]) H7 (.ref n) := ev_var rfl
  refine st_put (v := .int ((x4 : Int) + x5 - 1)) (ev_I (g := fun i j => .int (i - j)) (ev_I (g := fun i j => .int (i + j)) (ev_fld s7 h7 T.c_Net T.n_Net_first f4) (ev_fld s7 h7 T.c_Net T.n_Net_how_many f5)) ev_c) s7 h7 T.c_Net T.n_Net_last rfl fun H8 k8 h8 => ?_
  rw [netF_b7] at h8
  exact k H8 ⟨dx, h8⟩ (k7.trans k8)
theorem pure_lends (T : Txt P w K mg base a) (vs : List V) (H : Hp) (Q : VK) (E : XK) (h : sp_lends K P w a vs H Q E) : t_lends K P w a { nx := fun _ H' => Q .non H', rt := Q } (start ["self", "address"] vs) H := by
  obtain ⟨n, N, x, rfl, ⟨dx, hn⟩, k⟩ := h
  have s0 : Ev (tVar 0) (start ["self", "address"] [V.ref n, V.int (x : Int)]) H (.ref n) := ev_var rfl
  have c := ev_chain (g := fun i j => decide (i ≤ j)) (g' := fun i j => decide (i ≤ j)) (ef_Net_first T s0 hn) (ev_var (i := 1) (v := .int (x : Int)) rfl) (ef_Net_last T s0 hn)
  refine s_ret (ev_is c ?_) k
  rw [int_le_nat]
  refine congrArg V.bl ?_
  have e : decide ((x : Int) ≤ (N.first : Int) + N.count - 1) = decide (x < N.first + N.count) := decide_eq_decide.mpr (by omega)
  rw [e, ← Bool.decide_and]
theorem pure_sharesNet (T : Txt P w K mg base a) (vs : List V) (H : Hp) (Q : VK) (E : XK) (h : sp_sharesNet K P w a vs H Q E) : t_sharesNet K P w a { nx := fun _ H' => Q .non H', rt := Q } (start ["self", "address"] vs) H := by
  obtain ⟨n, N, x, rfl, ⟨dx, hn⟩, k⟩ := h
  refine s_ret (ev_is (ev_eq (ev_I (ev_var rfl) (ef_Net_mask T (ev_var rfl) hn)) (ev_I (ef_Net_server T (ev_var rfl) hn) (ef_Net_mask T (ev_var rfl) hn)) rfl) ?_) k
  rw [and_nat, and_nat, int_eq_nat]
/-- a number and the next share no bit: then it is one less than a power of two -/
theorem no_share : ∀ (k t : Nat), t < 2 ^ k → Nat.land t (t + 1) = 0 → ∃ j, j ≤ k ∧ t + 1 = 2 ^ j
  | 0, t, h, _ => ⟨0, Nat.le_refl _, by simp at h; subst h; rfl⟩
  | k + 1, t, h, e => by
    rcases Nat.mod_two_eq_zero_or_one t with c | c
    · refine ⟨0, Nat.zero_le _, ?_⟩
      have e2 : (t &&& (t + 1)) / 2 = 0 := by
        have e' : t &&& (t + 1) = 0 := e
        rw [e']
      rw [Nat.and_div_two] at e2
      have e3 : (t + 1) / 2 = t / 2 := by omega
      rw [e3, Nat.and_self] at e2
      show t + 1 = 1
      omega
    · have e2 : (t &&& (t + 1)) / 2 = 0 := by
        have e' : t &&& (t + 1) = 0 := e
        rw [e']
      rw [Nat.and_div_two] at e2
      have e3 : (t + 1) / 2 = t / 2 + 1 := by omega
      rw [e3] at e2
      obtain ⟨j, hj, q⟩ := no_share k (t / 2) (by rw [Nat.pow_succ] at h; omega) e2
      refine ⟨j + 1, Nat.succ_le_succ hj, ?_⟩
      rw [Nat.pow_succ, ← q]
      omega
theorem share_pow : ∀ j : Nat, Nat.land (2 ^ j - 1) (2 ^ j) = 0
  | j => by
    show (2 ^ j - 1) &&& 2 ^ j = 0
    rw [Nat.and_comm, Nat.and_two_pow_sub_one_eq_mod, Nat.mod_self]
theorem mask_math (m : Nat) (h : W32 m) : (Nat.land (4294967295 - m) (4294967295 - m + 1) == 0) = maskB m := by
  unfold W32 at h
  have iff : Nat.land (4294967295 - m) (4294967295 - m + 1) = 0 ↔ maskB m = true := by
    unfold maskB
    rw [List.any_eq_true]
    constructor
    · intro e
      obtain ⟨j, hj, q⟩ := no_share 32 _ (by show _ < 4294967296; omega) e
      have b : 2 ^ j ≤ 2 ^ 32 := Nat.pow_le_pow_right (by decide) hj
      refine ⟨j, List.mem_range.mpr (by omega), ?_⟩
      rw [beq_iff_eq]
      have z : (2 : Nat) ^ 32 = 4294967296 := by decide
      omega
    · rintro ⟨j, hj, q⟩
      rw [beq_iff_eq] at q
      have hj' := List.mem_range.mp hj
      have b : 2 ^ j ≤ 2 ^ 32 := Nat.pow_le_pow_right (by decide) (by omega)
      have b1 : 0 < 2 ^ j := Nat.two_pow_pos j
      have z : (2 : Nat) ^ 32 = 4294967296 := by decide
      have e1 : 4294967295 - m = 2 ^ j - 1 := by omega
      have e2 : 2 ^ j - 1 + 1 = 2 ^ j := by omega
      rw [e1, e2]
      exact share_pow j
  cases c : maskB m with
  | true => rw [iff.mpr c]; rfl
  | false =>
    rw [beq_eq_false_iff_ne]
    intro z
    rw [iff.mp z] at c
    cases c
theorem pure_isMask (T : Txt P w K mg base a) (vs : List V) (H : Hp) (Q : VK) (E : XK) (h : sp_isMask K P w a vs H Q E) : t_isMask K P w a { nx := fun _ H' => Q .non H', rt := Q } (start ["mask", "turned"] vs) H := by
  obtain ⟨m, rfl, hm, k⟩ := h
  have e1 : (4294967295 : Int) - (m : Int) = ((4294967295 - m : Nat) : Int) := by unfold W32 at hm; omega
  refine q_asg (v := .int ((4294967295 - m : Nat) : Int)) (ev_is (ev_I ev_c (ev_var (v := .int (m : Int)) rfl)) (by rw [e1])) fun H1 x1 => ?_
  refine s_ret (v := .bl (maskB m)) (ev_is (ev_eq (ev_I (ev_var rfl) (ev_I (ev_var rfl) ev_c)) ev_c rfl) ?_) fun H2 x2 => k H2 (x1.trans x2)
  have e2 : ((4294967295 - m : Nat) : Int) + 1 = ((4294967295 - m + 1 : Nat) : Int) := rfl
  rw [e2, and_nat, ← mask_math m hm]
  exact congrArg V.bl (int_eq_nat (y := 0))
theorem pure_isRight (T : Txt P w K mg base a) (vs : List V) (H : Hp) (Q : VK) (E : XK) (h : sp_isRight K P w a vs H Q E) : t_isRight K P w a { nx := fun _ H' => Q .non H', rt := Q } (start ["self"] vs) H := by
  obtain ⟨n, ns, rfl, hN, hw, k⟩ := h
  obtain ⟨dx, hn⟩ := id hN
  have s0 : Ev (tVar 0) (start ["self"] [V.ref n]) H (.ref n) := ev_var rfl
  have wd : ∀ i, W32 (ns.getD i 0) := fun i => by
    rw [List.getD_eq_getElem?_getD]
    cases e : ns[i]? with
    | none => show 0 < 4294967296; decide
    | some x => exact hw x (List.mem_of_getElem? e)
  generalize eN : netOf ns = N at *
  have f : W32 N.server ∧ W32 N.mask ∧ W32 N.first ∧ W32 N.count := by
    subst eN
    exact ⟨wd 0, wd 1, wd 4, wd 5⟩
  have eR : rightN ns = decide (maskB N.mask = true ∧ 1 ≤ N.count ∧ N.count ≤ 256 ∧ N.first + N.count - 1 < 2 ^ 32 ∧ Nat.land N.first N.mask = Nat.land N.server N.mask ∧ Nat.land (N.first + N.count - 1) N.mask = Nat.land N.server N.mask ∧
      (N.server < N.first ∨ N.first + N.count - 1 < N.server) ∧ 60 ≤ N.time ∧ N.time ≤ 31536000 ∧ N.first ≠ 0 ∧ N.server ≠ 0) := by
    subst eN
    unfold rightN Sd22.net
    dsimp only
    split
    · rename_i c
      exact (decide_eq_true c).symm
    · rename_i c
      exact (decide_eq_false c).symm
  have big : (2 : Nat) ^ 32 = 4294967296 := by decide
  have no : ∀ {H'}, Ex H H' → rightN ns = false → Q (.bl false) H' := fun {H'} e z => by
    have q := k H' e
    rw [z] at q
    exact q
  have D0 : ({ nx := fun _ H' => Q .non H', rt := Q } : Ends).rt = Q := rfl
  refine s_if (et_or (et_test (ev_eq (ef_Net_server T s0 hn) ev_c rfl)) fun _ => et_or (et_test (ev_eq (ef_Net_first T s0 hn) ev_c rfl)) fun _ => et_not (et_B (ev_call (ea_cons (ef_Net_mask T s0 hn) ea_nil) (spv_isMask f.2.1)))) (fun hb H1 e1 => ?_) (fun hb H1 e1 => ?_)
  · show Q (.bl false) H1
    refine no e1 ?_
    rw [eR]
    refine decide_eq_false fun c => ?_
    rw [show (V.int 0) = V.int ((0 : Nat) : Int) from rfl, int_eq_nat, int_eq_nat, Bool.or_eq_true, Bool.or_eq_true, beq_iff_eq, beq_iff_eq, Bool.not_eq_true'] at hb
    rcases hb with z | z | z
    · exact c.2.2.2.2.2.2.2.2.2.2 z
    · exact c.2.2.2.2.2.2.2.2.2.1 z
    · rw [c.1] at z; cases z
  rw [show (V.int 0) = V.int ((0 : Nat) : Int) from rfl, int_eq_nat, int_eq_nat, Bool.or_eq_false_iff, Bool.or_eq_false_iff, beq_eq_false_iff_ne, beq_eq_false_iff_ne, Bool.not_eq_false'] at hb
  have hn1 := e1 _ _ hn
  have s1 : Ev (tVar 0) (start ["self"] [V.ref n]) H1 (.ref n) := ev_var rfl
  refine s_if (et_not (et_test (ev_chain (g := fun i j => decide (i ≤ j)) (g' := fun i j => decide (i ≤ j)) (i := 1) (k := 256) ev_c (ef_Net_how_many T s1 hn1) ev_c))) (fun hc H2 e2 => ?_) (fun hc H2 e2 => ?_)
  · show Q (.bl false) H2
    refine no (e1.trans e2) ?_
    rw [eR]
    refine decide_eq_false fun c => ?_
    rw [Bool.not_eq_true', Bool.and_eq_false_iff, decide_eq_false_iff_not, decide_eq_false_iff_not] at hc
    omega
  rw [Bool.not_eq_false', Bool.and_eq_true, decide_eq_true_eq, decide_eq_true_eq] at hc
  have hn2 := e2 _ _ hn1
  have s2 : Ev (tVar 0) (start ["self"] [V.ref n]) H2 (.ref n) := ev_var rfl
  refine s_if (et_not (et_test (ev_chain (g := fun i j => decide (i ≤ j)) (g' := fun i j => decide (i ≤ j)) (i := 60) (k := 31536000) ev_c (ef_Net_how_long T s2 hn2) ev_c))) (fun hd H3 e3 => ?_) (fun hd H3 e3 => ?_)
  · show Q (.bl false) H3
    refine no ((e1.trans e2).trans e3) ?_
    rw [eR]
    refine decide_eq_false fun c => ?_
    rw [Bool.not_eq_true', Bool.and_eq_false_iff, decide_eq_false_iff_not, decide_eq_false_iff_not] at hd
    omega
  rw [Bool.not_eq_false', Bool.and_eq_true, decide_eq_true_eq, decide_eq_true_eq] at hd
  have hn3 := e3 _ _ hn2
  have s3 : Ev (tVar 0) (start ["self"] [V.ref n]) H3 (.ref n) := ev_var rfl
  have e03 := (e1.trans e2).trans e3
  refine s_if (et_or (et_test (ev_I (g := fun i j => .bl (decide (j < i))) (j := 4294967295) (ef_Net_last T s3 hn3) ev_c)) fun _ => et_B (ev_meth s3 hn3 netF_m_lends (ea_cons (ef_Net_server T s3 hn3) ea_nil) (spv_lends ⟨dx, hn3⟩))) (fun he H4 e4 => ?_) (fun he H4 e4 => ?_)
  · show Q (.bl false) H4
    refine no (e03.trans e4) ?_
    rw [eR]
    refine decide_eq_false fun c => ?_
    rw [Bool.or_eq_true, decide_eq_true_eq, decide_eq_true_eq] at he
    omega
  rw [Bool.or_eq_false_iff, decide_eq_false_iff_not, decide_eq_false_iff_not] at he
  have hn4 := e4 _ _ hn3
  have s4 : Ev (tVar 0) (start ["self"] [V.ref n]) H4 (.ref n) := ev_var rfl
  have el : (N.first : Int) + N.count - 1 = ((N.first + N.count - 1 : Nat) : Int) := by omega
  rw [el] at hn4
  refine s_ret (v := .bl (rightN ns)) (ev_is (ev_andV (ev_meth s4 hn4 netF_m_shares_net (ea_cons (ef_Net_first T s4 hn4) ea_nil) (spv_sharesNet (N := N) ⟨dx, by rw [el]; exact hn4⟩)) fun _ => ev_meth s4 hn4 netF_m_shares_net (ea_cons (ef_Net_last T s4 hn4) ea_nil) (spv_sharesNet (N := N) ⟨dx, by rw [el]; exact hn4⟩)) ?_) fun H5 e5 => k H5 ((e03.trans e4).trans e5)
  rw [eR]
  refine congrArg V.bl ?_
  rw [Bool.eq_iff_iff, Bool.and_eq_true, beq_iff_eq, beq_iff_eq, decide_eq_true_eq]
  constructor
  · rintro ⟨h1, h2⟩
    exact ⟨hb.2.2, by omega, by omega, by omega, h1, h2, by omega, by omega, by omega, hb.2.1, hb.1⟩
  · rintro c
    exact ⟨c.2.2.2.2.1, c.2.2.2.2.2.1⟩
end
end Lp
namespace Lp
open PySem PySem.Spec PyProof.Rows L2 Evl
/-! ### replies -/
theorem be_len (k n : Nat) : (Sd22.be k n).length = k := by
  unfold Sd22.be
  rw [List.length_map, List.length_range]
theorem be4 (n : Nat) (h : W32 n) : Sd22.be 4 n = [n / 16777216, n / 65536 % 256, n / 256 % 256, n % 256] := by
  unfold W32 at h
  show [n / 16777216 % 256, n / 65536 % 256, n / 256 % 256, n / 1 % 256] = _
  rw [Nat.div_one, Nat.mod_eq_of_lt (a := n / 16777216) (by omega)]
theorem and255 (n : Nat) : Builtin.bitAnd (n : Int) 255 = ((n % 256 : Nat) : Int) := by
  have z := Bits.bitAnd_mask (x := (n : Int)) 8 (Int.natCast_nonneg n)
  rw [show ((2 : Int) ^ 8 - 1) = 255 by decide, show ((2 : Int) ^ 8) = 256 by decide] at z
  rw [z]
  rfl
section
variable {P : Program} {w : World} {K : PySem.W.Frag} {mg : Str → Option Value} {base : Heap} {a : Ad}
theorem el_sm {σ : L2.St} {H : Hp} {ta : TA} {vs : List V} (h : EvA ta σ H vs) (hl : Nat.ble vs.length 1000 = true) : EvL (tLst ta) σ H vs := el_lst h (Nat.le_trans (Nat.le_of_ble_eq_true hl) (by decide))
theorem ev_shr {σ : L2.St} {H : Hp} {ta tb : TE} {n k : Nat} (ha : Ev ta σ H (.int (n : Int))) (hb : Ev tb σ H (.int (k : Int))) : Ev (tOp rShr ta tb) σ H (.int ((n / 2 ^ k : Nat) : Int)) :=
  ev_is (ev_IC (C := fun _ j => 0 ≤ j) (g := fun i j => .int (i / 2 ^ j.toNat)) ha hb (Int.natCast_nonneg k)) (by
    show V.int ((n : Int) / 2 ^ ((k : Int).toNat)) = _
    rw [Int.toNat_natCast]
    refine congrArg V.int ?_
    rw [Int.natCast_ediv, Int.natCast_pow]
    rfl)
theorem ev_and255 {σ : L2.St} {H : Hp} {ta : TE} {n : Nat} (ha : Ev ta σ H (.int (n : Int))) : Ev (tOp rAnd ta (tC (.int 255))) σ H (.int ((n % 256 : Nat) : Int)) :=
  ev_is (ev_I (g := fun i j => .int (Builtin.bitAnd i j)) ha ev_c) (by rw [and255])
theorem pure_fourBytes (T : Txt P w K mg base a) (vs : List V) (H : Hp) (Q : VK) (E : XK) (h : sp_fourBytes K P w a vs H Q E) : t_fourBytes K P w a { nx := fun _ H' => Q .non H', rt := Q } (start ["number"] vs) H := by
  obtain ⟨n, rfl, hn, k⟩ := h
  have s0 : Ev (tVar 0) (start ["number"] [V.int (n : Int)]) H (.int (n : Int)) := ev_var rfl
  refine s_retG (eg_is (eg_new (el_sm (ea_cons (ev_shr (k := 24) s0 ev_c) (ea_cons (ev_and255 (ev_shr (k := 16) s0 ev_c)) (ea_cons (ev_and255 (ev_shr (k := 8) s0 ev_c)) (ea_cons (ev_and255 s0) ea_nil)))) rfl)) ?_) (fun p H1 e1 h1 => k H1 p e1 h1)
  rw [be4 n hn]
  rfl
theorem el_cat {σ : L2.St} {H : Hp} {ta tb : TE} {xs ys : List V} (ha : EG ta σ H xs) (hb : EG tb σ H ys) (hl : xs.length + ys.length ≤ 100000) : EvL (tOp rCat ta tb) σ H (xs ++ ys) := fun H1 e Q q =>
  ha H1 e _ fun p H2 e2 hp => hb H2 (e.trans e2) _ fun r H3 e3 hr => ⟨p, r, xs, ys, rfl, rfl, e3 _ _ hp, hr, sz_of hl, fun u hu => q u _ (fresh_back (e2.trans e3) hu) ((e2.trans e3).trans (Ex.new hu)) upd_same⟩
theorem el_is {σ : L2.St} {H : Hp} {te : TE} {xs ys : List V} (h : EvL te σ H xs) (e : xs = ys) : EvL te σ H ys := e ▸ h
theorem s_ext {D : Ends} {σ : L2.St} {H0 H : Hp} {l : Addr} {ta tb : TE} {xs ys : List V} (h0 : H0 l = none) (e : Ex H0 H) (hl : H l = some (.lst xs)) (ha : Ev ta σ H (.ref l)) (hb : EG tb σ H ys) (hz : xs.length + ys.length ≤ 100000)
    (k : ∀ H1, Ex H0 H1 → H1 l = some (.lst (xs ++ ys)) → D.nx σ H1) : tDrop (tBM K "list" rExtend ta (tCons tb tNil)) D σ H :=
  ha H (Ex.refl _) _ fun H1 e1 => ⟨.inl ⟨rfl, xs, sq_of (e1 _ _ hl)⟩, hb H1 e1 _ fun r H2 e2 hr => ⟨l, r, xs, ys, rfl, rfl, e2 _ _ (e1 _ _ hl), hr, sz_of hz, k _ (((e.trans e1).trans e2).mut h0) upd_same⟩⟩
theorem pure_numberOption (T : Txt P w K mg base a) (vs : List V) (H : Hp) (Q : VK) (E : XK) (h : sp_numberOption K P w a vs H Q E) : t_numberOption K P w a { nx := fun _ H' => Q .non H', rt := Q } (start ["option", "number"] vs) H := by
  obtain ⟨c, n, rfl, hn, k⟩ := h
  refine s_retG (eg_is (eg_cat (eg_new (el_sm (ea_cons (x := .int (c : Int)) (ev_var rfl) (ea_cons ev_c ea_nil)) rfl)) (eg_call (ea_cons (x := .int (n : Int)) (ev_var rfl) ea_nil) (spg_fourBytes hn)) ?_) ?_) (fun p H1 e1 h1 => k H1 p e1 h1)
  · rw [iv_len, be_len]
    exact Nat.le_of_ble_eq_true rfl
  · rfl
theorem oi_eq {o : Option Nat} {n : Nat} : decide (oi o = V.int (n : Int)) = (o == some n) := by
  cases o with
  | none => exact decide_eq_false (fun z => by cases z)
  | some m => rw [show oi (some m) = V.int (m : Int) from rfl, int_eq_nat]; rfl
theorem int0 : (V.int 0) = V.int ((0 : Nat) : Int) := rfl
theorem pure_portFor (T : Txt P w K mg base a) (vs : List V) (H : Hp) (Q : VK) (E : XK) (h : sp_portFor K P w a vs H Q E) : t_portFor K P w a { nx := fun _ H' => Q .non H', rt := Q } (start ["message"] vs) H := by
  obtain ⟨m, p, kind, given, rfl, ⟨dx, ln, lf, lm, lw, v, hm, _⟩, ok, k⟩ := h
  have s0 : Ev (tVar 0) (start ["message"] [V.ref m]) H (.ref m) := ev_var rfl
  refine s_if (et_test (ev_ne (ef_Message_relay T s0 hm) ev_c rfl)) (fun hb H1 e1 => ?_) (fun hb H1 e1 => ?_)
  · rw [int0, int_eq_nat, Bool.not_eq_true', beq_eq_false_iff_ne] at hb
    have z := k H1 e1
    unfold Sd22.aim at z
    rw [if_pos hb] at z
    exact z
  · rw [int0, int_eq_nat, Bool.not_eq_false', beq_iff_eq] at hb
    have z := k H1 e1
    have e : (Sd22.aim p kind given).2 = 68 := by
      unfold Sd22.aim
      rw [if_neg (fun c => c hb)]
      repeat' split
      all_goals rfl
    rw [e] at z
    exact z
theorem high_be2 (n : Nat) (h : n < 65536) : Sd22.high (Sd22.be 2 n) = n := by
  show 256 * (256 * 0 + n / 256 % 256) + n / 1 % 256 = n
  rw [Nat.div_one]
  omega
theorem be_256 (k n : Nat) : B256 (Sd22.be k n) := fun x hx => by
  unfold Sd22.be at hx
  obtain ⟨i, _, rfl⟩ := List.mem_map.mp hx
  exact Nat.mod_lt _ (by decide)
theorem pure_addressFor (T : Txt P w K mg base a) (vs : List V) (H : Hp) (Q : VK) (E : XK) (h : sp_addressFor K P w a vs H Q E) : t_addressFor K P w a { nx := fun _ H' => Q .non H', rt := Q } (start ["message", "kind", "given"] vs) H := by
  obtain ⟨m, p, kind, given, rfl, ⟨dx, ln, lf, lm, lw, v, hm, hln, hlf, _⟩, ok, k⟩ := h
  have s0 : ∀ H, Ev (tVar 0) (start ["message", "kind", "given"] [V.ref m, V.int (kind : Int), V.int (given : Int)]) H (.ref m) := fun H => ev_var rfl
  refine s_if (et_test (ev_ne (ef_Message_relay T (s0 _) hm) ev_c rfl)) (fun hb H1 e1 => ?_) (fun hb H1 e1 => ?_)
  · rw [int0, int_eq_nat, Bool.not_eq_true', beq_eq_false_iff_ne] at hb
    refine s_ret (ef_Message_relay T (s0 _) (e1 _ _ hm)) fun H2 e2 => ?_
    have z := k H2 (e1.trans e2)
    unfold Sd22.aim at z
    rw [if_pos hb] at z
    exact z
  rw [int0, int_eq_nat, Bool.not_eq_false', beq_iff_eq] at hb
  refine s_if (et_test (ev_eq (x := .int (kind : Int)) (ev_var rfl) ev_c rfl)) (fun hc H2 e2 => ?_) (fun hc H2 e2 => ?_)
  · rw [show (V.int 6) = V.int ((6 : Nat) : Int) from rfl, int_eq_nat, beq_iff_eq] at hc
    have z := k H2 (e1.trans e2)
    unfold Sd22.aim at z
    rw [if_neg (fun c => c hb), if_pos hc] at z
    exact z
  rw [show (V.int 6) = V.int ((6 : Nat) : Int) from rfl, int_eq_nat, beq_eq_false_iff_ne] at hc
  refine s_if (et_test (ev_ne (ef_Message_client T (s0 _) (e2 _ _ (e1 _ _ hm))) ev_c rfl)) (fun hd H3 e3 => ?_) (fun hd H3 e3 => ?_)
  · rw [int0, int_eq_nat, Bool.not_eq_true', beq_eq_false_iff_ne] at hd
    refine s_ret (ef_Message_client T (s0 _) (e3 _ _ (e2 _ _ (e1 _ _ hm)))) fun H4 e4 => ?_
    have z := k H4 (((e1.trans e2).trans e3).trans e4)
    unfold Sd22.aim at z
    rw [if_neg (fun c => c hb), if_neg hc, if_pos hd] at z
    exact z
  rw [int0, int_eq_nat, Bool.not_eq_false', beq_iff_eq] at hd
  have e03 := (e1.trans e2).trans e3
  refine s_if (et_test (ev_I (g := fun i j => .bl (decide (j ≤ i))) (j := 32768) (ev_call1L (xs := iv (Sd22.be 2 p.flags)) (z := .int ((p.flags : Nat) : Int)) (eg_ref (ef_Message_flags T (s0 _) (e03 _ _ hm)) (e03 _ _ hlf)) (fun q H5 e5 h5 => by
    have z := spv_numberOf (K := K) (P := P) (w := w) (a := a) h5 (by rw [be_len]; decide) (be_256 _ _)
    rw [high_be2 _ ok.flags] at z
    exact z)) ev_c)) (fun he H4 e4 => ?_) (fun he H4 e4 => ?_)
  · rw [decide_eq_true_eq] at he
    have z := k H4 (e03.trans e4)
    unfold Sd22.aim at z
    rw [if_neg (fun c => c hb), if_neg hc, if_neg (fun c => c hd), if_pos (by omega)] at z
    exact z
  · rw [decide_eq_false_iff_not] at he
    have z := k H4 (e03.trans e4)
    unfold Sd22.aim at z
    rw [if_neg (fun c => c hb), if_neg hc, if_neg (fun c => c hd), if_neg (by omega)] at z
    exact s_ret (D := { nx := fun _ H' => Q .non H', rt := Q }) (v := .int (given : Int)) (ev_var (σ := start ["message", "kind", "given"] [V.ref m, V.int (kind : Int), V.int (given : Int)]) rfl) fun H5 e5 => by
      have z := k H5 ((e03.trans e4).trans e5)
      unfold Sd22.aim at z
      rw [if_neg (fun c => c hb), if_neg hc, if_neg (fun c => c hd), if_neg (by omega)] at z
      exact z
end
end Lp
namespace Lp
open PySem PySem.Spec PyProof.Rows L2 Evl
section
variable {P : Program} {w : World} {K : PySem.W.Frag} {mg : Str → Option Value} {base : Heap} {a : Ad}
theorem iv_cons (n : Nat) (l : List Nat) : iv (n :: l) = V.int (n : Int) :: iv l := rfl
theorem iv_small {l : List Nat} {n : Nat} (h : l.length ≤ n) : (iv l).length ≤ n := by rw [iv_len]; exact h
/-- options.extend(number_option(c, e)), e an attribute's number -/
theorem s_nopt {D : Ends} {σ : L2.St} {H0 H : Hp} {l : Addr} {tc tn : TE} {i : Nat} {xs : List Nat} {c n : Nat} (hσ : σ[i]? = some (some (.ref l))) (h0 : H0 l = none) (e : Ex H0 H) (hl : H l = some (.lst (iv xs))) (hc : Ev tc σ H (.int (c : Int))) (hn : Ev tn σ H (.int (n : Int))) (hw : W32 n) (hz : xs.length ≤ 90000)
    (k : ∀ H1, Ex H0 H1 → H1 l = some (.lst (iv (xs ++ c :: 4 :: Sd22.be 4 n))) → D.nx σ H1) : tDrop (tBM K "list" rExtend (tVar i) (tCons (tCall (sp_numberOption K P w a) [] E0 (tCons tc (tCons tn tNil))) tNil)) D σ H :=
  s_ext h0 e hl (ev_var hσ) (eg_call (ea_cons hc (ea_cons hn ea_nil)) (spg_numberOption hw)) (by rw [iv_len, iv_len]; have z := be_len 4 n; simp only [List.length_cons]; omega) fun H1 e1 h1 => k H1 e1 (by rw [iv_app]; exact h1)
def oB1 (N : Sd22.Net) (kind : Nat) : List Nat := [53, 1, kind] ++ (54 :: 4 :: Sd22.be 4 N.server)
def oB2 (N : Sd22.Net) (given : Nat) : List Nat := if given = 0 then [] else (51 :: 4 :: Sd22.be 4 N.time) ++ (58 :: 4 :: Sd22.be 4 (N.time / 2)) ++ (59 :: 4 :: Sd22.be 4 (N.time / 8 * 7))
def oB3 (N : Sd22.Net) (kind : Nat) : List Nat := if kind = 6 then [] else (1 :: 4 :: Sd22.be 4 N.mask) ++ (3 :: 4 :: Sd22.be 4 N.router) ++ (6 :: 4 :: Sd22.be 4 N.names)
def oB4 (p : Sd22.Packet) : List Nat := match p.opt 61 with
  | none => []
  | some b => 61 :: b.length :: b
theorem oB_len1 (N : Sd22.Net) (kind : Nat) : (oB1 N kind).length = 9 := by unfold oB1; simp only [List.length_append, List.length_cons, List.length_nil, be_len]
theorem oB_len2 (N : Sd22.Net) (given : Nat) : (oB2 N given).length ≤ 18 := by
  unfold oB2
  split
  · exact Nat.zero_le _
  · simp only [List.length_append, List.length_cons, be_len]; omega
theorem oB_len3 (N : Sd22.Net) (kind : Nat) : (oB3 N kind).length ≤ 18 := by
  unfold oB3
  split
  · exact Nat.zero_le _
  · simp only [List.length_append, List.length_cons, be_len]; omega
theorem oB_len4 (p : Sd22.Packet) (ok : MsgOk p) : (oB4 p).length ≤ 34 := by
  unfold oB4
  cases e : p.opt 61 with
  | none => exact Nat.zero_le _
  | some b =>
    have z := ok.ident b e
    show b.length + 1 + 1 ≤ 34
    omega
theorem optsB_is (N : Sd22.Net) (p : Sd22.Packet) (kind given : Nat) : optsB N p kind given = oB1 N kind ++ oB2 N given ++ oB3 N kind ++ oB4 p ++ [255] := by
  unfold optsB oB1 oB2 oB3 oB4
  rfl
theorem w32_of {n m : Nat} (h : n ≤ m) (hm : m ≤ 4294967295) : W32 n := by unfold W32; omega
theorem pure_optionsOf (T : Txt P w K mg base a) (vs : List V) (H : Hp) (Q : VK) (E : XK) (h : sp_optionsOf K P w a vs H Q E) : t_optionsOf K P w a { nx := fun _ H' => Q .non H', rt := Q } (start ["net", "message", "kind", "given", "options"] vs) H := by
  obtain ⟨n, m, N, p, kind, given, rfl, ⟨dn, hn⟩, nk, ⟨dm, ln, lf, lm, lw, v, hm, _, _, _, hid, _⟩, ok, k⟩ := h
  have S0 : ∀ x H, Ev (tVar 0) [some (V.ref n), some (V.ref m), some (V.int (kind : Int)), some (V.int (given : Int)), x] H (.ref n) := fun x H => ev_var rfl
  have S1 : ∀ x H, Ev (tVar 1) [some (V.ref n), some (V.ref m), some (V.int (kind : Int)), some (V.int (given : Int)), x] H (.ref m) := fun x H => ev_var rfl
  have S2 : ∀ x H, Ev (tVar 2) [some (V.ref n), some (V.ref m), some (V.int (kind : Int)), some (V.int (given : Int)), x] H (.int (kind : Int)) := fun x H => ev_var rfl
  have S3 : ∀ x H, Ev (tVar 3) [some (V.ref n), some (V.ref m), some (V.int (kind : Int)), some (V.int (given : Int)), x] H (.int (given : Int)) := fun x H => ev_var rfl
  refine q_asgL (el_is (el_cat (eg_new (el_sm (ea_cons ev_c (ea_cons ev_c (ea_cons (S2 none _) ea_nil))) rfl)) (eg_call (ea_cons (x := .int ((54 : Nat) : Int)) ev_c (ea_cons (ef_Net_server T (S0 none _) hn) ea_nil)) (spg_numberOption nk.server)) (by rw [iv_len]; simp only [List.length_cons, List.length_nil, be_len]; decide)) (show _ = iv (oB1 N kind) from rfl)) fun l H1 l0 e1 h1 => ?_
  have S4 : ∀ H, Ev (tVar 4) [some (V.ref n), some (V.ref m), some (V.int (kind : Int)), some (V.int (given : Int)), some (V.ref l)] H (.ref l) := fun H => ev_var rfl
  have z1 := oB_len1 N kind
  have z2 := oB_len2 N given
  have z3 := oB_len3 N kind
  have z4 := oB_len4 p ok
  have t1 := nk.time1
  have t2 := nk.time2
  -- if given != 0
  have K3 : ∀ H3, Ex H H3 → H3 l = some (.lst (iv (oB1 N kind ++ oB2 N given ++ oB3 N kind))) →
      tSeq (tIfS (tTest (tOp rNotN (tFld K (tVar 1) "identifier") (tC .non))) (tDrop (tBM K "list" rExtend (tVar 4) (tCons (tOp rCat (tLst (tCons (tC (.int 61)) (tCons (tCB (rLenS K) (tCons (tFld K (tVar 1) "identifier") tNil)) tNil))) (tFld K (tVar 1) "identifier")) tNil))) tNext)
        (tRet (tOp rCat (tVar 4) (tLst (tCons (tC (.int 255)) tNil)))) { nx := fun _ H' => Q .non H', rt := Q } [some (V.ref n), some (V.ref m), some (V.int (kind : Int)), some (V.int (given : Int)), some (V.ref l)] H3 := by
    intro H3 e3 h3
    have fin : ∀ H4, Ex H H4 → H4 l = some (.lst (iv (oB1 N kind ++ oB2 N given ++ oB3 N kind ++ oB4 p))) → tRet (tOp rCat (tVar 4) (tLst (tCons (tC (.int 255)) tNil))) { nx := fun _ H' => Q .non H', rt := Q } [some (V.ref n), some (V.ref m), some (V.int (kind : Int)), some (V.int (given : Int)), some (V.ref l)] H4 := by
      intro H4 e4 h4
      refine s_retG (xs := iv (optsB N p kind given)) (eg_is (eg_cat (eg_ref (S4 _) h4) (eg_new (el_sm (ea_cons ev_c ea_nil) rfl)) ?_) ?_) fun q H5 e5 h5 => k H5 q (e4.trans e5) h5
      · rw [iv_len]; simp only [List.length_append, List.length_cons, List.length_nil]; omega
      · rw [optsB_is, iv_app (oB1 N kind ++ oB2 N given ++ oB3 N kind ++ oB4 p)]; rfl
    refine s_if (et_test (ev_notN (ef_Message_identifier T (S1 _ _) (e3 _ _ hm)))) (fun hb H4 e4 => ?_) (fun hb H4 e4 => ?_)
    · cases eo : p.opt 61 with
      | none =>
        rw [eo] at hid
        have hv : v = .non := hid
        subst hv
        exact absurd hb (by decide)
      | some b =>
        rw [eo] at hid
        obtain ⟨lb, rfl, hlb⟩ := hid
        have zb := ok.ident b eo
        have hm4 := e4 _ _ (e3 _ _ hm)
        have hb4 := e4 _ _ (e3 _ _ hlb)
        refine s_ext (ys := iv (61 :: b.length :: b)) l0 (e3.trans e4) (e4 _ _ h3) (S4 _) (eg_is (eg_cat (eg_new (el_sm (ea_cons ev_c (ea_cons (ev_lenG (eg_ref (ef_Message_identifier T (S1 _ _) hm4) hb4)) ea_nil)) rfl)) (eg_ref (ef_Message_identifier T (S1 _ _) hm4) hb4) ?_) ?_) ?_ fun H5 e5 h5 => fin H5 e5 ?_
        · rw [iv_len]; simp only [List.length_cons, List.length_nil]; omega
        · rw [iv_len]; rfl
        · rw [iv_len, iv_len]; simp only [List.length_append, List.length_cons]; omega
        · have e6 : oB4 p = 61 :: b.length :: b := by unfold oB4; rw [eo]
          rw [e6, iv_app (oB1 N kind ++ oB2 N given ++ oB3 N kind)]
          exact h5
    · cases eo : p.opt 61 with
      | some b =>
        rw [eo] at hid
        obtain ⟨lb, rfl, hlb⟩ := hid
        exact absurd hb (by simp)
      | none =>
        refine fin H4 (e3.trans e4) ?_
        have e6 : oB4 p = [] := by unfold oB4; rw [eo]
        rw [e6, List.append_nil]
        exact e4 _ _ h3
  have K2 : ∀ H2, Ex H H2 → H2 l = some (.lst (iv (oB1 N kind ++ oB2 N given))) → tSeq (tIfS (tTest (tOp rNe (tVar 2) (tC (.int 6)))) (tSeq (tDrop (tBM K "list" rExtend (tVar 4) (tCons (tCall (sp_numberOption K P w a) [] E0 (tCons (tC (.int 1)) (tCons (tFld K (tVar 0) "mask") tNil))) tNil)))
    (tSeq (tDrop (tBM K "list" rExtend (tVar 4) (tCons (tCall (sp_numberOption K P w a) [] E0 (tCons (tC (.int 3)) (tCons (tFld K (tVar 0) "way_out") tNil))) tNil)))
    (tDrop (tBM K "list" rExtend (tVar 4) (tCons (tCall (sp_numberOption K P w a) [] E0 (tCons (tC (.int 6)) (tCons (tFld K (tVar 0) "names") tNil))) tNil))))) tNext)
      (tSeq (tIfS (tTest (tOp rNotN (tFld K (tVar 1) "identifier") (tC .non))) (tDrop (tBM K "list" rExtend (tVar 4) (tCons (tOp rCat (tLst (tCons (tC (.int 61)) (tCons (tCB (rLenS K) (tCons (tFld K (tVar 1) "identifier") tNil)) tNil))) (tFld K (tVar 1) "identifier")) tNil))) tNext)
        (tRet (tOp rCat (tVar 4) (tLst (tCons (tC (.int 255)) tNil))))) { nx := fun _ H' => Q .non H', rt := Q } [some (V.ref n), some (V.ref m), some (V.int (kind : Int)), some (V.int (given : Int)), some (V.ref l)] H2 := by
    intro H2 e2 h2
    refine s_if (et_test (ev_ne (S2 _ _) ev_c rfl)) (fun hb H3 e3 => ?_) (fun hb H3 e3 => ?_)
    · rw [show (V.int 6) = V.int ((6 : Nat) : Int) from rfl, int_eq_nat, Bool.not_eq_true', beq_eq_false_iff_ne] at hb
      have en := e2.trans e3
      refine s_nopt (c := 1) rfl l0 en (e3 _ _ h2) ev_c (ef_Net_mask T (S0 _ _) (en _ _ hn)) nk.mask (by rw [List.length_append]; omega) fun H4 e4 h4 => ?_
      refine s_nopt (c := 3) rfl l0 e4 h4 ev_c (ef_Net_way_out T (S0 _ _) (e4 _ _ hn)) nk.router (by simp only [List.length_append, List.length_cons, be_len]; omega) fun H5 e5 h5 => ?_
      refine s_nopt (c := 6) rfl l0 e5 h5 ev_c (ef_Net_names T (S0 _ _) (e5 _ _ hn)) nk.names (by simp only [List.length_append, List.length_cons, be_len]; omega) fun H6 e6 h6 => ?_
      refine K3 H6 e6 ?_
      have e7 : oB3 N kind = (1 :: 4 :: Sd22.be 4 N.mask) ++ (3 :: 4 :: Sd22.be 4 N.router) ++ (6 :: 4 :: Sd22.be 4 N.names) := by unfold oB3; rw [if_neg hb]
      rw [e7, ← List.append_assoc, ← List.append_assoc]
      exact h6
    · rw [show (V.int 6) = V.int ((6 : Nat) : Int) from rfl, int_eq_nat, Bool.not_eq_false', beq_iff_eq] at hb
      refine K3 H3 (e2.trans e3) ?_
      have e7 : oB3 N kind = [] := by unfold oB3; rw [if_pos hb]
      rw [e7, List.append_nil]
      exact e3 _ _ h2
  refine s_if (et_test (ev_ne (S3 _ _) ev_c rfl)) (fun hb H2 e2 => ?_) (fun hb H2 e2 => ?_)
  · rw [int0, int_eq_nat, Bool.not_eq_true', beq_eq_false_iff_ne] at hb
    have en := e1.trans e2
    refine s_nopt (c := 51) rfl l0 en (e2 _ _ h1) ev_c (ef_Net_how_long T (S0 _ _) (en _ _ hn)) (w32_of t2 (by decide)) (by omega) fun H4 e4 h4 => ?_
    refine s_nopt (c := 58) (n := N.time / 2) rfl l0 e4 h4 ev_c (ev_IC (C := CDiv) (g := fun i j => .int (i / j)) (ef_Net_how_long T (S0 _ _) (e4 _ _ hn)) ev_c ⟨by decide, by decide⟩) (w32_of (m := 31536000) (by omega) (by decide)) (by simp only [List.length_append, List.length_cons, be_len]; omega) fun H5 e5 h5 => ?_
    refine s_nopt (c := 59) (n := N.time / 8 * 7) rfl l0 e5 h5 ev_c (ev_is (ev_IC (C := CMul) (g := fun i j => .int (i * j)) (ev_IC (C := CDiv) (g := fun i j => .int (i / j)) (ef_Net_how_long T (S0 _ _) (e5 _ _ hn)) ev_c ⟨by decide, by decide⟩) ev_c (.inl ⟨by omega, by omega⟩)) ?_) (w32_of (m := 31536000) (by omega) (by decide)) (by simp only [List.length_append, List.length_cons, be_len]; omega) fun H6 e6 h6 => ?_
    · show V.int ((N.time : Int) / 8 * 7) = V.int ((N.time / 8 * 7 : Nat) : Int)
      rw [Int.natCast_mul, Int.natCast_ediv]
      rfl
    refine K2 H6 e6 ?_
    have e7 : oB2 N given = (51 :: 4 :: Sd22.be 4 N.time) ++ (58 :: 4 :: Sd22.be 4 (N.time / 2)) ++ (59 :: 4 :: Sd22.be 4 (N.time / 8 * 7)) := by unfold oB2; rw [if_neg hb]
    rw [e7, ← List.append_assoc, ← List.append_assoc]
    exact h6
  · rw [int0, int_eq_nat, Bool.not_eq_false', beq_iff_eq] at hb
    refine K2 H2 (e1.trans e2) ?_
    have e7 : oB2 N given = [] := by unfold oB2; rw [if_pos hb]
    rw [e7, List.append_nil]
    exact e2 _ _ h1
end
end Lp
namespace Lp
open PySem PySem.Spec PyProof.Rows L2 Evl
section
variable {P : Program} {w : World} {K : PySem.W.Frag} {mg : Str → Option Value} {base : Heap} {a : Ad}
theorem eg_four {σ : L2.St} {H : Hp} {te : TE} {n : Nat} (h : Ev te σ H (.int (n : Int))) (hw : W32 n) : EG (tCall (sp_fourBytes K P w a) [] E0 (tCons te tNil)) σ H (iv (Sd22.be 4 n)) := eg_call (ea_cons h ea_nil) (spg_fourBytes hw)
theorem eg_app {σ : L2.St} {H : Hp} {ta tb : TE} {x y : List Nat} (ha : EG ta σ H (iv x)) (hb : EG tb σ H (iv y)) (hl : x.length + y.length ≤ 100000) : EG (tOp rCat ta tb) σ H (iv (x ++ y)) :=
  eg_is (eg_cat ha hb (by rw [iv_len, iv_len]; exact hl)) (iv_app x y).symm
theorem rep_one (k n : Nat) : (List.replicate k [V.int (n : Int)]).flatten = iv (List.replicate k n) := by
  induction k with
  | zero => rfl
  | succ k ih =>
    rw [List.replicate_succ, List.replicate_succ, List.flatten_cons, ih]
    rfl
theorem pure_header (T : Txt P w K mg base a) (vs : List V) (H : Hp) (Q : VK) (E : XK) (h : sp_header K P w a vs H Q E) : t_header K P w a { nx := fun _ H' => Q .non H', rt := Q } (start ["message", "kind", "given", "client", "start", "addresses"] vs) H := by
  obtain ⟨m, p, kind, given, rfl, ⟨dm, ln, lf, lm, lw, v, hm, hln, hlf, hlm, _, _⟩, ok, hg, k⟩ := h
  have x4 := ok.xid
  have x16 := ok.machine
  have K1 : ∀ (c : Nat) (H1 : Hp), W32 c → Ex H H1 → c = (if kind = 5 then p.client else 0) → tSeq (tAsg (tOp rCat (tOp rCat (tOp rCat (tLst (tCons (tC (.int 2)) (tCons (tC (.int 1)) (tCons (tC (.int 6)) (tCons (tC (.int 0)) tNil))))) (tFld K (tVar 0) "number")) (tLst (tCons (tC (.int 0)) (tCons (tC (.int 0)) tNil)))) (tFld K (tVar 0) "flags")) (gName 4))
    (tSeq (tAsg (tOp rCat (tOp rCat (tOp rCat (tCall (sp_fourBytes K P w a) [] E0 (tCons (tVar 3) tNil)) (tCall (sp_fourBytes K P w a) [] E0 (tCons (tVar 2) tNil))) (tCall (sp_fourBytes K P w a) [] E0 (tCons (tC (.int 0)) tNil))) (tCall (sp_fourBytes K P w a) [] E0 (tCons (tFld K (tVar 0) "relay") tNil))) (gName 5))
    (tRet (tOp rCat (tOp rCat (tOp rCat (tOp rCat (tVar 4) (tVar 5)) (tFld K (tVar 0) "machine")) (tOp rRep (tLst (tCons (tC (.int 0)) tNil)) (tC (.int 192)))) (tCB (rListS K) (tCons (tC (.ref a.kCOOKIE)) tNil))))) { nx := fun _ H' => Q .non H', rt := Q } [some (V.ref m), some (V.int (kind : Int)), some (V.int (given : Int)), some (V.int (c : Int)), none, none] H1 := by
    intro c H1 hc e1 ec
    have S0 : ∀ x y H, Ev (tVar 0) [some (V.ref m), some (V.int (kind : Int)), some (V.int (given : Int)), some (V.int (c : Int)), x, y] H (.ref m) := fun x y H => ev_var rfl
    have S2 : ∀ x y H, Ev (tVar 2) [some (V.ref m), some (V.int (kind : Int)), some (V.int (given : Int)), some (V.int (c : Int)), x, y] H (.int (given : Int)) := fun x y H => ev_var rfl
    have S3 : ∀ x y H, Ev (tVar 3) [some (V.ref m), some (V.int (kind : Int)), some (V.int (given : Int)), some (V.int (c : Int)), x, y] H (.int (c : Int)) := fun x y H => ev_var rfl
    refine s_asgG (D := { nx := _, rt := Q }) (xs := iv ([2, 1, 6, 0] ++ p.xid ++ [0, 0] ++ Sd22.be 2 p.flags)) (eg_app (eg_app (eg_app (x := [2, 1, 6, 0]) (eg_new (el_sm (ea_cons ev_c (ea_cons ev_c (ea_cons ev_c (ea_cons ev_c ea_nil)))) rfl)) (eg_ref (ef_Message_number T (S0 _ _ _) (e1 _ _ hm)) (e1 _ _ hln)) ?_) (y := [0, 0]) (eg_new (el_sm (ea_cons ev_c (ea_cons ev_c ea_nil)) rfl)) ?_) (eg_ref (ef_Message_flags T (S0 _ _ _) (e1 _ _ hm)) (e1 _ _ hlf)) ?_) fun l4 H2 e2 h4 => ?_
    · rw [x4]; decide
    · rw [List.length_append, x4]; decide
    · rw [List.length_append, List.length_append, x4, be_len]; decide
    have e02 := e1.trans e2
    refine s_asgG (D := { nx := _, rt := Q }) (xs := iv (Sd22.be 4 c ++ Sd22.be 4 given ++ Sd22.be 4 0 ++ Sd22.be 4 p.relay)) (eg_app (eg_app (eg_app (eg_four (S3 _ _ _) hc) (eg_four (S2 _ _ _) hg) ?_) (eg_four (n := 0) ev_c (by show 0 < 4294967296; decide)) ?_) (eg_four (ef_Message_relay T (S0 _ _ _) (e02 _ _ hm)) ok.relay) ?_) fun l5 H3 e3 h5 => ?_
    · rw [be_len, be_len]; decide
    · rw [List.length_append, be_len, be_len, be_len]; decide
    · rw [List.length_append, List.length_append, be_len, be_len, be_len, be_len]; decide
    have e03 := e02.trans e3
    refine s_retG (xs := iv (headB p kind given)) (eg_is (eg_app (eg_app (eg_app (eg_app (eg_ref (ev_var rfl) (e3 _ _ h4)) (eg_ref (ev_var rfl) h5) ?_) (eg_ref (ef_Message_machine T (S0 _ _ _) (e03 _ _ hm)) (e03 _ _ hlm)) ?_) (y := List.replicate 192 0) (eg_is (eg_rep (k := 192) (eg_new (el_sm (ea_cons ev_c ea_nil) rfl)) ev_c (by decide) (by decide) (by decide)) (rep_one 192 0)) ?_) (y := [99, 130, 83, 99]) (eg_tup ev_c fun H1 _ => T.cookie H1) ?_) ?_) fun q H4 e4 h4 => k H4 q (e03.trans e4) h4
    · simp only [List.length_append, be_len, x4, List.length_cons, List.length_nil]; decide
    · simp only [List.length_append, be_len, x4, x16, List.length_cons, List.length_nil]; decide
    · simp only [List.length_append, be_len, x4, x16, List.length_cons, List.length_nil, List.length_replicate]; decide
    · simp only [List.length_append, be_len, x4, x16, List.length_cons, List.length_nil, List.length_replicate]; decide
    · unfold headB
      rw [ec]
  refine q_asg ev_c fun H1 e1 => ?_
  refine s_if (et_test (ev_eq (x := .int (kind : Int)) (ev_var rfl) ev_c rfl)) (fun hb H2 e2 => ?_) (fun hb H2 e2 => ?_)
  · rw [show (V.int 5) = V.int ((5 : Nat) : Int) from rfl, int_eq_nat, beq_iff_eq] at hb
    refine s_asg (v := .int (p.client : Int)) (ef_Message_client T (ev_var rfl) (e2 _ _ (e1 _ _ hm))) fun H3 e3 => K1 p.client H3 ok.client ((e1.trans e2).trans e3) (by rw [if_pos hb])
  · rw [show (V.int 5) = V.int ((5 : Nat) : Int) from rfl, int_eq_nat, beq_eq_false_iff_ne] at hb
    exact K1 0 H2 (by show 0 < 4294967296; decide) (e1.trans e2) (by rw [if_neg hb])
theorem headB_len (p : Sd22.Packet) (ok : MsgOk p) (kind given : Nat) : (headB p kind given).length = 240 := by
  unfold headB
  simp only [List.length_append, be_len, ok.xid, ok.machine, List.length_cons, List.length_nil, List.length_replicate]
theorem optsB_len (N : Sd22.Net) (p : Sd22.Packet) (ok : MsgOk p) (kind given : Nat) : (optsB N p kind given).length ≤ 100 := by
  rw [optsB_is]
  have z1 := oB_len1 N kind
  have z2 := oB_len2 N given
  have z3 := oB_len3 N kind
  have z4 := oB_len4 p ok
  simp only [List.length_append, List.length_cons, List.length_nil]
  omega
theorem pure_reply (T : Txt P w K mg base a) (vs : List V) (H : Hp) (Q : VK) (E : XK) (h : sp_reply K P w a vs H Q E) : t_reply K P w a { nx := fun _ H' => Q .non H', rt := Q } (start ["net", "message", "kind", "given", "packet"] vs) H := by
  obtain ⟨n, m, N, p, kind, given, rfl, hN, nk, hM, ok, hg, k⟩ := h
  have z1 := headB_len p ok kind given
  have z2 := optsB_len N p ok kind given
  have S : ∀ x H, Ev (tVar 0) [some (V.ref n), some (V.ref m), some (V.int (kind : Int)), some (V.int (given : Int)), x] H (.ref n) ∧ Ev (tVar 1) [some (V.ref n), some (V.ref m), some (V.int (kind : Int)), some (V.int (given : Int)), x] H (.ref m) ∧
      Ev (tVar 2) [some (V.ref n), some (V.ref m), some (V.int (kind : Int)), some (V.int (given : Int)), x] H (.int (kind : Int)) ∧ Ev (tVar 3) [some (V.ref n), some (V.ref m), some (V.int (kind : Int)), some (V.int (given : Int)), x] H (.int (given : Int)) := fun x H => ⟨ev_var rfl, ev_var rfl, ev_var rfl, ev_var rfl⟩
  refine q_asgL (xs := iv (headB p kind given ++ optsB N p kind given)) (el_is (el_cat (eg_call (ea_cons (S none H).2.1 (ea_cons (S none H).2.2.1 (ea_cons (S none H).2.2.2 ea_nil))) (spg_header hM ok hg)) (eg_call (ea_cons (S none H).1 (ea_cons (S none H).2.1 (ea_cons (S none H).2.2.1 (ea_cons (S none H).2.2.2 ea_nil)))) (spg_optionsOf hN nk hM ok)) ?_) ?_) fun l H1 l0 e1 h1 => ?_
  · rw [iv_len, iv_len]; omega
  · rw [iv_app]
  generalize eb : headB p kind given ++ optsB N p kind given = b at h1
  have zb : b.length ≤ 400 := by rw [← eb, List.length_append]; omega
  have S4 : ∀ H, Ev (tVar 4) [some (V.ref n), some (V.ref m), some (V.int (kind : Int)), some (V.int (given : Int)), some (V.ref l)] H (.ref l) := fun H => ev_var rfl
  refine s_ext (H0 := H) (l := l) (xs := iv b) (ys := iv (List.replicate (300 - b.length) 0)) l0 e1 h1 (S4 _) ?_ ?_ fun H2 e2 h2 => ?_
  · have c : ((300 : Int) - (b.length : Int)).toNat = 300 - b.length := by omega
    refine eg_is (eg_rep (k := (300 : Int) - (b.length : Int)) (eg_new (el_sm (ea_cons (x := .int ((0 : Nat) : Int)) ev_c ea_nil) rfl)) (ev_I (g := fun i j => .int (i - j)) ev_c (ev_is (ev_lenG (eg_ref (S4 _) h1)) (by rw [iv_len]))) (by omega) (by omega) ?_) ?_
    · rw [c]; simp only [List.length_cons, List.length_nil]; omega
    · rw [c]; exact rep_one _ 0
  · rw [iv_len, iv_len, List.length_replicate]; omega
  have hb : b ++ List.replicate (300 - b.length) 0 = bytesB N p kind given := by unfold bytesB; rw [eb]
  rw [← iv_app, hb] at h2
  have zz : (bytesB N p kind given).length ≤ 400 := by rw [← hb, List.length_append, List.length_replicate]; omega
  have hN2 := hN.ex e2
  have hM2 := hM.ex e2
  refine s_retG (xs := iv (ansB N p kind given)) (eg_is (eg_cat (eg_new (el_sm (ea_cons (ev_is (ev_lenG (eg_ref (S4 _) h2)) (by rw [iv_len])) (ea_cons (ev_call (ea_cons (S _ _).2.1 (ea_cons (S _ _).2.2.1 (ea_cons (S _ _).2.2.2 ea_nil))) (spv_addressFor hM2 ok)) (ea_cons (ev_call (ea_cons (S _ _).2.1 ea_nil) (spv_portFor (kind := kind) (given := given) hM2 ok)) ea_nil))) rfl)) (eg_ref (S4 _) h2) ?_) ?_) fun q H3 e3 h3 => k H3 q (e2.trans e3) h3
  · rw [iv_len]; simp only [List.length_cons, List.length_nil]; omega
  · rfl
end
end Lp
namespace Lp
open PySem PySem.Spec PyProof.Rows L2 Evl
/-! ### the dict of options -/
theorem key_eq (c k : Nat) : decide ((Sum.inl (k : Int) : Key) = Sum.inl (c : Int)) = (k == c) := by
  rw [L2.key_ll]
  by_cases e : k = c
  · rw [e, beq_self_eq_true, beq_self_eq_true]
  · rw [beq_eq_false_iff_ne.mpr e, beq_eq_false_iff_ne.mpr (by omega)]
theorem zip_val : ∀ (o : List (Nat × Sd22.Bytes)) (as : List Addr) (c : Nat), as.length = o.length →
    (optOf o c = none ∧ valV (zipKV o as) (Sum.inl (c : Int)) = none) ∨ ∃ (i : Nat) (x : Nat × Sd22.Bytes) (p : Addr), o[i]? = some x ∧ as[i]? = some p ∧ optOf o c = some x.2 ∧ valV (zipKV o as) (Sum.inl (c : Int)) = some (.ref p)
  | [], [], c, _ => .inl ⟨rfl, rfl⟩
  | (k, b) :: o, p :: as, c, h => by
    have ih := zip_val o as c (Nat.succ.inj h)
    have e1 : valV (zipKV ((k, b) :: o) (p :: as)) (Sum.inl (c : Int)) = if (k == c) = true then some (.ref p) else valV (zipKV o as) (Sum.inl (c : Int)) := by
      unfold valV
      show ((List.find? _ (((Sum.inl (k : Int) : Key), V.ref p) :: zipKV o as)).map Prod.snd) = _
      rw [List.find?_cons]
      dsimp only
      rw [key_eq]
      cases k == c <;> rfl
    have e2 : optOf ((k, b) :: o) c = if (k == c) = true then some b else optOf o c := by
      unfold optOf
      rw [List.find?_cons]
      dsimp only
      cases k == c <;> rfl
    rw [e1, e2]
    cases k == c with
    | true => exact .inr ⟨0, (k, b), p, rfl, rfl, rfl, rfl⟩
    | false =>
      rcases ih with z | ⟨i, x, q, h1, h2, h3, h4⟩
      · exact .inl z
      · exact .inr ⟨i + 1, x, q, h1, h2, h3, h4⟩
theorem opts_get {H : Hp} {d : Addr} {o : List (Nat × Sd22.Bytes)} (h : OptsAt H d o) (c : Nat) :
    ∃ kvs, H d = some (.dK kvs) ∧ ((optOf o c = none ∧ valV kvs (Sum.inl (c : Int)) = none) ∨ ∃ b l, optOf o c = some b ∧ valV kvs (Sum.inl (c : Int)) = some (.ref l) ∧ H l = some (.lst (iv b))) := by
  obtain ⟨as, h1, h2, h3⟩ := h
  refine ⟨_, h2, ?_⟩
  rcases zip_val o as c h1 with z | ⟨i, x, p, q1, q2, q3, q4⟩
  · exact .inl z
  · exact .inr ⟨x.2, p, q3, q4, h3 i x p q1 q2⟩
section
variable {P : Program} {w : World} {K : PySem.W.Frag} {mg : Str → Option Value} {base : Heap} {a : Ad} {σ : L2.St} {H : Hp} {ty td : TE} {c : Nat} {d : Addr} {o : List (Nat × Sd22.Bytes)}
theorem ev_din (hy : Ev ty σ H (.int (c : Int))) (hd : Ev td σ H (.ref d)) (h : OptsAt H d o) : Ev (tDIn ty td) σ H (.bl (optOf o c).isSome) := fun H1 e Q q =>
  hy H1 e _ fun H2 e2 => hd H2 (e.trans e2) _ fun H3 e3 => by
    obtain ⟨kvs, h1, h2⟩ := opts_get (h.ex ((e.trans e2).trans e3)) c
    refine ⟨d, _, rfl, DGet.k (k := Sum.inl (c : Int)) h1, ?_⟩
    have z := q H3 (e2.trans e3)
    rcases h2 with ⟨h3, h4⟩ | ⟨b, l, h3, h4, _⟩ <;> (rw [h3] at z; rw [h4]; exact z)
theorem ev_dnotin (hy : Ev ty σ H (.int (c : Int))) (hd : Ev td σ H (.ref d)) (h : OptsAt H d o) : Ev (tDNotIn ty td) σ H (.bl (!(optOf o c).isSome)) := fun H1 e Q q =>
  hy H1 e _ fun H2 e2 => hd H2 (e.trans e2) _ fun H3 e3 => by
    obtain ⟨kvs, h1, h2⟩ := opts_get (h.ex ((e.trans e2).trans e3)) c
    refine ⟨d, _, rfl, DGet.k (k := Sum.inl (c : Int)) h1, ?_⟩
    have z := q H3 (e2.trans e3)
    rcases h2 with ⟨h3, h4⟩ | ⟨b, l, h3, h4, _⟩ <;> (rw [h3] at z; rw [h4]; exact z)
theorem eg_dget {b : Sd22.Bytes} (hd : Ev td σ H (.ref d)) (hy : Ev ty σ H (.int (c : Int))) (h : OptsAt H d o) (hb : optOf o c = some b) : EG (tDGet td ty) σ H (iv b) := fun H1 e Q q =>
  hd H1 e _ fun H2 e2 => hy H2 (e.trans e2) _ fun H3 e3 => by
    obtain ⟨kvs, h1, h2⟩ := opts_get (h.ex ((e.trans e2).trans e3)) c
    rw [hb] at h2
    rcases h2 with ⟨h3, _⟩ | ⟨b', l, h3, h4, h5⟩
    · cases h3
    · cases h3
      have g := DGet.k (k := Sum.inl (c : Int)) h1
      rw [h4] at g
      exact ⟨d, _, rfl, g, q l H3 (e2.trans e3) h5⟩
/-- d.get(c) -/
theorem get_opt (hd : Ev td σ H (.ref d)) (hy : Ev ty σ H (.int (c : Int))) (h : OptsAt H d o) {Q : VK} (q : ∀ v H1, Ex H H1 → IdAt H1 v (optOf o c) → Q v H1) : tDGet1 td ty σ H Q :=
  hd H (Ex.refl _) _ fun H2 e2 => by
    obtain ⟨kvs, h1, _⟩ := opts_get (h.ex e2) c
    refine ⟨d, rfl, .inl ⟨kvs, .inl h1⟩, hy H2 e2 _ fun H3 e3 => ?_⟩
    obtain ⟨kvs', h3, h4⟩ := opts_get (h.ex (e2.trans e3)) c
    refine ⟨_, DGet.k (k := Sum.inl (c : Int)) h3, ?_⟩
    rcases h4 with ⟨h5, h6⟩ | ⟨b, l, h5, h6, h7⟩
    · rw [h6]
      exact q .non H3 (e2.trans e3) (by rw [h5]; rfl)
    · rw [h6]
      exact q (.ref l) H3 (e2.trans e3) (by rw [h5]; exact ⟨l, rfl, h7⟩)
theorem pure_addressIn (T : Txt P w K mg base a) (vs : List V) (H : Hp) (Q : VK) (E : XK) (h : sp_addressIn K P w a vs H Q E) : t_addressIn K P w a { nx := fun _ H' => Q .non H', rt := Q } (start ["options", "number"] vs) H := by
  obtain ⟨d, c, o, rfl, hO, hb, k⟩ := h
  have S0 : ∀ H, Ev (tVar 0) (start ["options", "number"] [V.ref d, V.int (c : Int)]) H (.ref d) := fun H => ev_var rfl
  have S1 : ∀ H, Ev (tVar 1) (start ["options", "number"] [V.ref d, V.int (c : Int)]) H (.int (c : Int)) := fun H => ev_var rfl
  refine s_if (et_B (ev_din (S1 _) (S0 _) hO)) (fun h1 H1 e1 => ?_) (fun h1 H1 e1 => ?_)
  · obtain ⟨b, eb⟩ := Option.isSome_iff_exists.mp h1
    rw [eb] at k
    refine s_ret (ev_call1L (eg_dget (S0 _) (S1 _) (hO.ex e1) eb) fun p H2 e2 h2 => spv_numberOf h2 (hb b eb).1 (hb b eb).2) fun H2 e2 => k H2 (e1.trans e2)
  · have z := k H1 e1
    have e : optOf o c = none := Option.not_isSome_iff_eq_none.mp (by rw [h1]; exact Bool.false_ne_true)
    rw [e] at z
    exact z
/-! ### slices -/
theorem cut_iv (b : List Nat) (lo hi : Nat) : cutV (iv b) (some (lo : Int)) (some (hi : Int)) = iv ((b.drop lo).take (min hi b.length - min lo b.length)) := by
  unfold cutV
  rw [HT.sIx_nat, HT.sIx_nat, iv_len]
  unfold iv
  rw [← List.map_drop, ← List.map_take]
  by_cases c : lo ≤ b.length
  · rw [Nat.min_eq_left c]
  · rw [Nat.min_eq_right (Nat.le_of_not_le c), List.drop_of_length_le (Nat.le_refl _), List.drop_of_length_le (Nat.le_of_not_le c)]
theorem el_cut {te : TE} {l : Addr} {b : List Nat} {lo hi : Nat} {tl th : TE} (h : Ev te σ H (.ref l)) (hl : H l = some (.lst (iv b))) (h1 : Ev tl σ H (.int (lo : Int))) (h2 : Ev th σ H (.int (hi : Int))) :
    EvL (tSl (rSlL K) te (tPart tl) (tPart th)) σ H (iv ((b.drop lo).take (min hi b.length - min lo b.length))) :=
  el_is (el_sl h (eo_some h1) (eo_some h2) (SqL.of hl)) (cut_iv b lo hi)
theorem el_cut_c {te : TE} {l : Addr} {b : List Nat} {lo hi : Nat} (h : Ev te σ H (.ref l)) (hl : H l = some (.lst (iv b))) (h1 : lo ≤ hi) (h2 : hi ≤ b.length) :
    EvL (tSl (rSlL K) te (tPart (tC (.int (lo : Int)))) (tPart (tC (.int (hi : Int))))) σ H (iv ((b.drop lo).take (hi - lo))) :=
  el_is (el_cut h hl ev_c ev_c) (by rw [Nat.min_eq_left h2, Nat.min_eq_left (Nat.le_trans h1 h2)])
end
end Lp
namespace Lp
open PySem PySem.Spec PyProof.Rows L2 Evl
/-! ### the walk over the options, in plain words -/
theorem op_end (f : Nat) (r : List Nat) (h : List (Nat × Sd22.Bytes)) : Sd22.options (f + 1) (255 :: r) h = if r.all (· == 0) = true then some h else none := by simp only [Sd22.options]
theorem op_fill (f : Nat) (r : List Nat) (h : List (Nat × Sd22.Bytes)) : Sd22.options (f + 1) (0 :: r) h = Sd22.options f r h := by simp only [Sd22.options]
theorem op_nil (f : Nat) (h : List (Nat × Sd22.Bytes)) : Sd22.options f [] h = none := by cases f <;> simp only [Sd22.options]
theorem op_one (f c : Nat) (h : List (Nat × Sd22.Bytes)) (h255 : c ≠ 255) : Sd22.options f [c] h = none := by
  cases f with
  | zero => simp only [Sd22.options]
  | succ f =>
    by_cases h0 : c = 0
    · subst h0
      rw [op_fill, op_nil]
    · rw [Sd22.options]
      all_goals (intros; first | contradiction | omega | simp_all)
theorem op_cons (f c n : Nat) (r : List Nat) (h : List (Nat × Sd22.Bytes)) (h255 : c ≠ 255) (h0 : c ≠ 0) :
    Sd22.options (f + 1) (c :: n :: r) h = if r.length < n ∨ (h.any fun x => x.1 == c) = true then none else Sd22.options f (r.drop n) (h ++ [(c, r.take n)]) := by
  rw [Sd22.options]
  all_goals (intros; first | contradiction | omega | simp_all)
theorem any_opt (o : List (Nat × Sd22.Bytes)) (c : Nat) : (optOf o c).isSome = o.any fun x => x.1 == c := by
  unfold optOf
  rw [Option.isSome_map]
  induction o with
  | nil => rfl
  | cons x o ih =>
    rw [List.find?_cons, List.any_cons]
    cases x.1 == c with
    | true => rfl
    | false => rw [Bool.false_or]; exact ih
/-- where the walk stands: R is what is due of the whole -/
def Walks (b : List Nat) (R : Option (List (Nat × Sd22.Bytes))) (i : Nat) (acc : List (Nat × Sd22.Bytes)) : Prop :=
  (i ≤ b.length ∧ ∃ f, (b.drop i).length < f ∧ Sd22.options f (b.drop i) acc = R) ∨ (b.length < i ∧ R = none)
theorem drop_at {b : List Nat} {i n : Nat} (h : b[i]? = some n) : b.drop i = n :: b.drop (i + 1) := by
  obtain ⟨hi, rfl⟩ := List.getElem?_eq_some_iff.mp h
  exact List.drop_eq_getElem_cons hi
theorem walks_fill {b : List Nat} {R : Option (List (Nat × Sd22.Bytes))} {i : Nat} {acc : List (Nat × Sd22.Bytes)} (h : Walks b R i acc) (hb : b[i]? = some 0) : Walks b R (i + 1) acc := by
  have hi := (List.getElem?_eq_some_iff.mp hb).1
  rcases h with ⟨_, f, hf, e⟩ | ⟨h, _⟩
  · rw [drop_at hb] at e hf
    match f, hf, e with
    | f + 1, hf, e =>
      rw [op_fill] at e
      exact .inl ⟨hi, f, by simpa using hf, e⟩
  · omega
theorem walks_twice {b : List Nat} {R : Option (List (Nat × Sd22.Bytes))} {i c n : Nat} {acc : List (Nat × Sd22.Bytes)} (h : Walks b R i acc) (hb : b[i]? = some c) (hn : b[i + 1]? = some n) (h255 : c ≠ 255) (h0 : c ≠ 0) (ha : (optOf acc c).isSome = true) : R = none := by
  have hi := (List.getElem?_eq_some_iff.mp hb).1
  rcases h with ⟨_, f, hf, e⟩ | ⟨h, _⟩
  · rw [drop_at hb, drop_at hn] at e hf
    match f, hf, e with
    | f + 1, hf, e =>
      rw [op_cons _ _ _ _ _ h255 h0, if_pos (.inr (by rw [← any_opt]; exact ha))] at e
      exact e.symm
  · omega
theorem walks_more {b : List Nat} {R : Option (List (Nat × Sd22.Bytes))} {i c n : Nat} {acc : List (Nat × Sd22.Bytes)} (h : Walks b R i acc) (hb : b[i]? = some c) (hn : b[i + 1]? = some n) (h255 : c ≠ 255) (h0 : c ≠ 0) (ha : (optOf acc c).isSome = false) :
    Walks b R (i + 2 + n) (acc ++ [(c, (b.drop (i + 2)).take (min (i + 2 + n) b.length - min (i + 2) b.length))]) := by
  have hi := (List.getElem?_eq_some_iff.mp hn).1
  rcases h with ⟨_, f, hf, e⟩ | ⟨h, _⟩
  · rw [drop_at hb, drop_at hn] at e hf
    match f, hf, e with
    | f + 1, hf, e =>
      rw [op_cons _ _ _ _ _ h255 h0] at e
      have el : (b.drop (i + 1 + 1)).length = b.length - (i + 2) := List.length_drop ..
      by_cases c1 : (b.drop (i + 1 + 1)).length < n
      · rw [if_pos (.inl c1)] at e
        exact .inr ⟨by omega, e.symm⟩
      · have c2 : ¬ ((b.drop (i + 1 + 1)).length < n ∨ (acc.any fun x => x.1 == c) = true) := by
          rw [← any_opt, ha]
          rintro (z | z)
          · exact c1 z
          · cases z
        rw [if_neg c2] at e
        have e1 : min (i + 2 + n) b.length - min (i + 2) b.length = n := by omega
        rw [e1]
        refine .inl ⟨by omega, f, ?_, ?_⟩
        · rw [List.length_drop]
          simp only [List.length_cons] at hf
          omega
        · rw [List.drop_drop] at e
          have e2 : i + 1 + 1 + n = i + 2 + n := by omega
          rw [e2] at e
          exact e
  · omega
theorem walks_end {b : List Nat} {R : Option (List (Nat × Sd22.Bytes))} {i : Nat} {acc : List (Nat × Sd22.Bytes)} (h : Walks b R i acc) (hb : b[i]? = some 255) : R = if (b.drop (i + 1)).all (· == 0) = true then some acc else none := by
  have hi := (List.getElem?_eq_some_iff.mp hb).1
  rcases h with ⟨_, f, hf, e⟩ | ⟨h, _⟩
  · rw [drop_at hb] at e hf
    match f, hf, e with
    | f + 1, hf, e => rw [← e, op_end]
  · omega
theorem walks_stop {b : List Nat} {R : Option (List (Nat × Sd22.Bytes))} {i : Nat} {acc : List (Nat × Sd22.Bytes)} (h : Walks b R i acc) (hi : b.length ≤ i + 1) (hb : b[i]? ≠ some 255) : R = none := by
  rcases h with ⟨_, f, hf, e⟩ | ⟨_, h⟩
  · cases q : b[i]? with
    | none =>
      rw [List.drop_of_length_le (List.getElem?_eq_none_iff.mp q), op_nil] at e
      exact e.symm
    | some c =>
      rw [drop_at q, List.drop_of_length_le hi, op_one _ _ _ (by rintro rfl; exact hb q)] at e
      exact e.symm
  · exact h
section
variable {P : Program} {w : World} {K : PySem.W.Frag} {mg : Str → Option Value} {base : Heap} {a : Ad}
theorem zip_put : ∀ (o : List (Nat × Sd22.Bytes)) (as : List Addr) (c : Nat) (b : Sd22.Bytes) (l : Addr), as.length = o.length → optOf o c = none → putK (zipKV o as) (Sum.inl (c : Int)) (V.ref l) = zipKV (o ++ [(c, b)]) (as ++ [l]) := fun o as c b l hl hn => by
  have e1 : ((zipKV o as).any fun kv => decide (kv.1 = Sum.inl (c : Int))) = false := by
    have z := any_opt o c
    rw [hn] at z
    have z2 : ∀ (o : List (Nat × Sd22.Bytes)) (as : List Addr), as.length = o.length → ((zipKV o as).any fun kv => decide (kv.1 = Sum.inl (c : Int))) = o.any fun x => x.1 == c := by
      intro o
      induction o with
      | nil => intro as _; rfl
      | cons x o ih =>
        intro as h
        match as, h with
        | p :: as, h =>
          show (decide ((Sum.inl (x.1 : Int) : Key) = Sum.inl (c : Int)) || (zipKV o as).any _) = _
          rw [key_eq, ih as (Nat.succ.inj h), List.any_cons]
    rw [z2 o as hl, ← z]
    rfl
  unfold putK
  rw [e1, if_neg Bool.false_ne_true]
  unfold zipKV
  rw [List.zipWith_append (by rw [hl])]
  rfl
/-- d[c] = xs, c not yet there -/
theorem opts_put {D : Ends} {σ : L2.St} {H0 H : Hp} {d : Addr} {td ty tv : TE} {o : List (Nat × Sd22.Bytes)} {c : Nat} {b : List Nat} (h0 : H0 d = none) (e : Ex H0 H) (hO : OptsAt H d o) (ho : o.length ≤ 5000) (hn : optOf o c = none) (hd : Ev td σ H (.ref d)) (hy : Ev ty σ H (.int (c : Int))) (hv : EG tv σ H (iv b))
    (k : ∀ H1, Ex H0 H1 → OptsAt H1 d (o ++ [(c, b)]) → D.nx σ H1) : sDPut td ty tv D σ H :=
  hv H (Ex.refl _) _ fun l H1 e1 hl => hd H1 e1 _ fun H2 e2 => hy H2 (e1.trans e2) _ fun H3 e3 => by
    obtain ⟨as, h1, h2, h3⟩ := hO.ex ((e1.trans e2).trans e3)
    have hlen : (zipKV o as).length ≤ 5000 := by
      unfold zipKV
      rw [List.length_zipWith]
      omega
    have hl3 := e3 _ _ (e2 _ _ hl)
    refine ⟨d, _, rfl, DPut.k (k := Sum.inl (c : Int)) h2 (Nat.lt_of_le_of_lt hlen (by decide)), k _ (((e.trans e1).trans (e2.trans e3)).mut h0) ?_⟩
    rw [zip_put o as c b l h1 hn]
    have up : ∀ q xs, H3 q = some (.lst xs) → upd H3 d (.dK (zipKV (o ++ [(c, b)]) (as ++ [l]))) q = some (.lst xs) := fun q xs hq => by
      rw [upd_ne (ne_of hq h2 (fun z => by cases z))]
      exact hq
    refine ⟨as ++ [l], by rw [List.length_append, List.length_append, h1]; rfl, upd_same, fun i x p hx hp => ?_⟩
    by_cases hi : i < o.length
    · rw [List.getElem?_append_left hi] at hx
      rw [List.getElem?_append_left (by rw [h1]; exact hi)] at hp
      exact up _ _ (h3 i x p hx hp)
    · have z := (List.getElem?_eq_some_iff.mp hx).1
      rw [List.length_append] at z
      have hi2 : i = o.length := by simp only [List.length_cons, List.length_nil] at z; omega
      subst hi2
      rw [List.getElem?_append_right (Nat.le_refl _), Nat.sub_self] at hx
      rw [List.getElem?_append_right (by rw [h1]; exact Nat.le_refl _), h1, Nat.sub_self] at hp
      cases hx
      cases hp
      exact up _ _ hl3
theorem cut_from (b : List Nat) (k : Nat) : cutV (iv b) (some (k : Int)) none = iv (b.drop k) := by
  unfold cutV
  rw [HT.sIx_nat, iv_len]
  show ((iv b).drop (min k b.length)).take (b.length - min k b.length) = _
  have e : (iv b).drop (min k b.length) = iv (b.drop k) := by
    unfold iv
    rw [← List.map_drop]
    by_cases c : k ≤ b.length
    · rw [Nat.min_eq_left c]
    · rw [Nat.min_eq_right (Nat.le_of_not_le c), List.drop_of_length_le (Nat.le_refl _), List.drop_of_length_le (Nat.le_of_not_le c)]
  rw [e]
  refine List.take_of_length_le ?_
  rw [iv_len, List.length_drop]
  omega
theorem ev_anyI {σ : L2.St} {H : Hp} {te : TE} {b : List Nat} (h : EG te σ H (iv b)) : Ev (tCB (rAnyI K) (tCons te tNil)) σ H (.bl (!(b.all (· == 0)))) := fun H1 e Q q =>
  h H1 e _ fun p H2 e2 hp => ⟨p, b.map fun n : Nat => (n : Int), rfl, by
    rw [List.map_map]
    exact SqL.of hp, by
    have z := q H2 e2
    have e3 : ((b.map fun n : Nat => (n : Int)).any fun n => n != 0) = !(b.all (· == 0)) := by
      rw [List.any_map, List.not_all_eq_any_not]
      refine congrArg (fun f => b.any f) (funext fun n => ?_)
      show ((n : Int) != 0) = !(n == 0)
      by_cases c : n = 0
      · rw [c]; rfl
      · rw [beq_eq_false_iff_ne.mpr c, bne_iff_ne.mpr (by omega)]; rfl
    rw [e3]
    exact z⟩
theorem pure_readOptions (T : Txt P w K mg base a) (vs : List V) (H : Hp) (Q : VK) (E : XK) (h : sp_readOptions K P w a vs H Q E) : t_readOptions K P w a { nx := fun _ H' => Q .non H', rt := Q } (start ["packet", "options", "at", "number", "behind"] vs) H := by
  obtain ⟨l, b, rfl, hl, h240, h576, hB, kN, kS⟩ := h
  generalize eR : Sd22.options (b.length + 1) (b.drop 240) [] = R at kN kS
  intro d hd
  have l0 : ∀ {H1}, Ex H H1 → H1 l = some (.lst (iv b)) := fun e => e _ _ hl
  have e0 : Ex H (upd H d (.dK [])) := Ex.new hd
  show tSeq (tAsg (tC (.int 240)) (gName 2)) _ _ [some (.ref l), some (.ref d), none, none, none] _
  refine q_asg ev_c fun H1 e1 => ?_
  have S0 : ∀ x y z H, Ev (tVar 0) [some (V.ref l), some (V.ref d), x, y, z] H (.ref l) := fun x y z H => ev_var rfl
  have S1 : ∀ x y z H, Ev (tVar 1) [some (V.ref l), some (V.ref d), x, y, z] H (.ref d) := fun x y z H => ev_var rfl
  have S2 : ∀ (x : Nat) y z H, Ev (tVar 2) [some (V.ref l), some (V.ref d), some (.int (x : Int)), y, z] H (.int (x : Int)) := fun x y z H => ev_var rfl
  have S3 : ∀ x (y : Nat) z H, Ev (tVar 3) [some (V.ref l), some (V.ref d), x, some (.int (y : Int)), z] H (.int (y : Int)) := fun x y z H => ev_var rfl
  have lenE : ∀ {x y z H1}, Ex H H1 → Ev (tCB (rLenS K) (tCons (tVar 0) tNil)) [some (V.ref l), some (V.ref d), x, y, z] H1 (.int (b.length : Int)) := fun e => ev_is (ev_lenG (eg_ref (S0 _ _ _ _) (l0 e))) (by rw [iv_len])
  have plus : ∀ (x k : Nat) (y z : Option V) (H : Hp), Ev (tOp rAdd (tVar 2) (tC (.int (k : Int)))) [some (V.ref l), some (V.ref d), some (.int (x : Int)), y, z] H (.int ((x + k : Nat) : Int)) := fun x k y z H => ev_I (g := fun i j => .int (i + j)) (S2 x y z H) ev_c
  refine q_while (fun m σ H' => ∃ (i : Nat) (acc : List (Nat × Sd22.Bytes)) (y z : Option V), σ = [some (V.ref l), some (V.ref d), some (.int (i : Int)), y, z] ∧ m = b.length - i ∧ acc.length ≤ i ∧ (∀ j, i ≤ j → acc.length ≤ 600) ∧ Ex H H' ∧ OptsAt H' d acc ∧ Walks b R i acc) _
    ⟨240, [], none, none, rfl, rfl, Nat.zero_le _, fun _ _ => Nat.zero_le _, e0.trans e1, ⟨[], rfl, e1 _ _ upd_same, fun i x p h => by simp at h⟩, .inl ⟨h240, _, by rw [List.length_drop]; omega, eR⟩⟩ ?_
  rintro m σ' H' ⟨i, acc, y, z, rfl, rfl, hai, hal, ex, hO, hW⟩
  have hal := hal i (Nat.le_refl _)
  -- the test
  by_cases c1 : i + 1 < b.length
  · obtain ⟨c, hc⟩ : ∃ c, b[i]? = some c := ⟨_, List.getElem?_eq_getElem (by omega)⟩
    obtain ⟨n, hn⟩ : ∃ n, b[i + 1]? = some n := ⟨_, List.getElem?_eq_getElem c1⟩
    have itemE : ∀ {y z H1}, Ex H H1 → Ev (tOp (rIxL K) (tVar 0) (tVar 2)) [some (V.ref l), some (V.ref d), some (.int (i : Int)), y, z] H1 (.int (c : Int)) := fun e => ev_ixL (S0 _ _ _ _) (SqL.of (l0 e)) (S2 _ _ _ _) (iv_get hc)
    refine ⟨!(c == 255), et_is (et_and (et_test (ev_I (g := fun i j => .bl (decide (i < j))) (plus i 1 y z H') (lenE ex))) fun _ => et_test (ev_ne (itemE ex) ev_c rfl)) ?_, fun hb H2 e2 => ?_, fun hb H2 e2 => ?_⟩
    · rw [int_lt_nat, decide_eq_true c1, Bool.true_and, show (V.int 255) = V.int ((255 : Nat) : Int) from rfl, int_eq_nat]
    · rw [Bool.not_eq_true', beq_eq_false_iff_ne] at hb
      have ex2 := ex.trans e2
      have hO2 := hO.ex e2
      refine ⟨fun σ2 H2 => ∃ (i' : Nat) (acc : List (Nat × Sd22.Bytes)) (y z : Option V), σ2 = [some (V.ref l), some (V.ref d), some (.int (i' : Int)), y, z] ∧ i < i' ∧ acc.length ≤ i' ∧ acc.length ≤ 600 ∧ Ex H H2 ∧ OptsAt H2 d acc ∧ Walks b R i' acc, ?_, ?_⟩
      · rintro σ2 H3 ⟨i', acc', y', z', rfl, hlt, h1, h2, h3, h4, h5⟩
        exact ⟨_, by omega, i', acc', y', z', rfl, rfl, h1, fun _ _ => h2, h3, h4, h5⟩
      refine q_asg (itemE ex2) fun H3 e3 => ?_
      have ex3 := ex2.trans e3
      have hO3 := hO2.ex e3
      show tIfS _ _ _ _ [some (V.ref l), some (V.ref d), some (.int (i : Int)), some (.int (c : Int)), z] H3
      refine s_if (et_test (ev_eq (S3 _ _ _ _) ev_c rfl)) (fun hf H4 e4 => ?_) (fun hf H4 e4 => ?_)
      · rw [int0, int_eq_nat, beq_iff_eq] at hf
        subst hf
        refine s_aug (a := (i : Int)) (b := 1) rfl ev_c fun H5 e5 => ?_
        exact ⟨i + 1, acc, _, _, rfl, Nat.lt_succ_self _, by omega, hal, (ex3.trans e4).trans e5, (hO3.ex e4).ex e5, walks_fill hW hc⟩
      rw [int0, int_eq_nat, beq_eq_false_iff_ne] at hf
      have ex4 := ex3.trans e4
      have hO4 := hO3.ex e4
      refine s_if (et_B (ev_din (S3 _ _ _ _) (S1 _ _ _ _) hO4)) (fun hg H5 e5 => ?_) (fun hg H5 e5 => ?_)
      · exact kN (walks_twice hW hc hn hb hf hg) H5 (ex4.trans e5)
      have ex5 := ex4.trans e5
      have hO5 := hO4.ex e5
      have hn256 : n < 256 := hB n (List.mem_of_getElem? hn)
      refine q_asg (v := .int ((i + 2 + n : Nat) : Int)) (ev_I (g := fun i j => .int (i + j)) (plus i 2 _ _ _) (ev_ixL (i := i + 1) (S0 _ _ _ _) (SqL.of (l0 ex5)) (plus i 1 _ _ _) (iv_get hn))) fun H6 e6 => ?_
      have ex6 := ex5.trans e6
      have hO6 := hO5.ex e6
      refine opts_put (H0 := H) hd ex6 hO6 (by omega) (Option.not_isSome_iff_eq_none.mp (by rw [hg]; exact Bool.false_ne_true)) (S1 _ _ _ _) (S3 _ _ _ _) (eg_new (el_cut (S0 _ _ _ _) (l0 ex6) (plus i 2 _ _ _) (ev_var (v := .int ((i + 2 + n : Nat) : Int)) rfl))) fun H7 e7 hO7 => ?_
      refine s_asg (v := .int ((i + 2 + n : Nat) : Int)) (ev_var rfl) fun H8 e8 => ⟨i + 2 + n, _, _, _, rfl, by omega, by rw [List.length_append]; simp only [List.length_cons, List.length_nil]; omega, by rw [List.length_append]; simp only [List.length_cons, List.length_nil]; omega, e7.trans e8, hO7.ex e8, walks_more hW hc hn hb hf hg⟩
    · rw [Bool.not_eq_false', beq_iff_eq] at hb
      subst hb
      have ex2 := ex.trans e2
      have hO2 := hO.ex e2
      have eRr := walks_end hW hc
      refine q_when (b := !((b.drop (i + 1)).all (· == 0))) (et_is (et_or (et_test (ev_I (g := fun i j => .bl (decide (j ≤ i))) (S2 _ _ _ _) (lenE ex2))) fun _ => et_or (et_test (ev_ne (itemE ex2) ev_c rfl)) fun _ => et_B (ev_anyI (eg_new (el_is (el_sl (S0 _ _ _ _) (eo_some (plus i 1 _ _ _)) eo_none (SqL.of (l0 ex2))) (cut_from b (i + 1)))))) ?_) (fun hg H3 e3 => ?_) (fun hg H3 e3 => ?_)
      · rw [int_le_nat, decide_eq_false (by omega), Bool.false_or]
        rfl
      · rw [Bool.not_eq_true'] at hg
        rw [hg, if_neg Bool.false_ne_true] at eRr
        exact kN eRr H3 (ex2.trans e3)
      · rw [Bool.not_eq_false'] at hg
        rw [hg, if_pos rfl] at eRr
        exact s_ret (S1 _ _ _ _) fun H4 e4 => kS acc eRr H4 d ((ex2.trans e3).trans e4) ((hO2.ex e3).ex e4)
  · refine ⟨false, et_is (et_and (b := false) (et_test (ev_I (g := fun i j => .bl (decide (i < j))) (plus i 1 y z H') (lenE ex))) fun hh => absurd hh (by rw [int_lt_nat, decide_eq_false c1]; exact Bool.false_ne_true)) (by rw [Bool.and_false]), fun hb => Bool.noConfusion hb, fun _ H2 e2 => ?_⟩
    have ex2 := ex.trans e2
    have hO2 := hO.ex e2
    by_cases c2 : i < b.length
    · obtain ⟨c, hc⟩ : ∃ c, b[i]? = some c := ⟨_, List.getElem?_eq_getElem c2⟩
      have itemE : ∀ {y z H1}, Ex H H1 → Ev (tOp (rIxL K) (tVar 0) (tVar 2)) [some (V.ref l), some (V.ref d), some (.int (i : Int)), y, z] H1 (.int (c : Int)) := fun e => ev_ixL (S0 _ _ _ _) (SqL.of (l0 e)) (S2 _ _ _ _) (iv_get hc)
      refine q_when (b := !(c == 255) || !((b.drop (i + 1)).all (· == 0))) (et_is (et_or (et_test (ev_I (g := fun i j => .bl (decide (j ≤ i))) (S2 _ _ _ _) (lenE ex2))) fun _ => et_or (et_test (ev_ne (itemE ex2) ev_c rfl)) fun _ => et_B (ev_anyI (eg_new (el_is (el_sl (S0 _ _ _ _) (eo_some (plus i 1 _ _ _)) eo_none (SqL.of (l0 ex2))) (cut_from b (i + 1)))))) ?_) (fun hg H3 e3 => ?_) (fun hg H3 e3 => ?_)
      · rw [int_le_nat, decide_eq_false (by omega), Bool.false_or, show (V.int 255) = V.int ((255 : Nat) : Int) from rfl, int_eq_nat]
      · rw [List.drop_of_length_le (by omega : b.length ≤ i + 1)] at hg
        have hg2 : c ≠ 255 := by rintro rfl; exact absurd hg (by decide)
        exact kN (walks_stop hW (by omega) (by rw [hc]; intro q; exact hg2 (Option.some.inj q))) H3 (ex2.trans e3)
      · rw [Bool.or_eq_false_iff, Bool.not_eq_false', Bool.not_eq_false', beq_iff_eq] at hg
        obtain ⟨rfl, hg⟩ := hg
        have eRr := walks_end hW hc
        rw [hg, if_pos rfl] at eRr
        exact s_ret (S1 _ _ _ _) fun H4 e4 => kS acc eRr H4 d ((ex2.trans e3).trans e4) ((hO2.ex e3).ex e4)
    · refine q_when (b := true) (et_is (et_or (b := true) (et_test (ev_I (g := fun i j => .bl (decide (j ≤ i))) (S2 _ _ _ _) (lenE ex2))) fun hh => absurd hh (by rw [int_le_nat, decide_eq_true (by omega)]; exact fun z => Bool.noConfusion z)) (by rw [Bool.or_true])) (fun _ H3 e3 => ?_) (fun hb => Bool.noConfusion hb)
      exact kN (walks_stop hW (by omega) (by rw [List.getElem?_eq_none_iff.mpr (by omega)]; intro q; cases q)) H3 (ex2.trans e3)
end
end Lp
namespace Lp
open PySem PySem.Spec PyProof.Rows L2 Evl
/-! ### which options are right -/
def okLen (o : List (Nat × Sd22.Bytes)) (y : Nat × Nat × Nat) : Bool := match optOf o y.1 with
  | none => true
  | some b => decide (y.2.1 ≤ b.length ∧ b.length ≤ y.2.2)
theorem all_swap {α β : Type} (l : List α) (m : List β) (p : α → β → Bool) : (l.all fun x => m.all fun y => p x y) = m.all fun y => l.all fun x => p x y := by
  rw [Bool.eq_iff_iff]
  simp only [List.all_eq_true]
  exact ⟨fun h y hy x hx => h x hx y hy, fun h x hx y hy => h y hy x hx⟩
theorem opt_mem {o : List (Nat × Sd22.Bytes)} (nd : (o.map (·.1)).Nodup) {x : Nat × Sd22.Bytes} (hx : x ∈ o) : optOf o x.1 = some x.2 := by
  induction o with
  | nil => cases hx
  | cons z o ih =>
    rw [List.map_cons, List.nodup_cons] at nd
    unfold optOf
    rw [List.find?_cons]
    rcases List.mem_cons.mp hx with rfl | hx
    · rw [beq_self_eq_true]; rfl
    · have ne : (z.1 == x.1) = false := beq_eq_false_iff_ne.mpr fun e => nd.1 (by rw [e]; exact List.mem_map_of_mem hx)
      rw [ne]
      exact ih nd.2 hx
theorem opt_in {o : List (Nat × Sd22.Bytes)} {c : Nat} {b : Sd22.Bytes} (h : optOf o c = some b) : (c, b) ∈ o := by
  unfold optOf at h
  obtain ⟨x, h1, h2⟩ := Option.map_eq_some_iff.mp h
  have z : (x.1 == c) = true := List.find?_some (p := fun x : Nat × Sd22.Bytes => x.1 == c) h1
  rw [beq_iff_eq] at z
  have m := List.mem_of_find?_eq_some h1
  obtain ⟨c', b'⟩ := x
  dsimp only at z h2
  subst z h2
  exact m
theorem okLen_is {o : List (Nat × Sd22.Bytes)} (nd : (o.map (·.1)).Nodup) (y : Nat × Nat × Nat) : (o.all fun x => y.1 != x.1 || decide (y.2.1 ≤ x.2.length ∧ x.2.length ≤ y.2.2)) = okLen o y := by
  rw [Bool.eq_iff_iff, List.all_eq_true]
  unfold okLen
  constructor
  · intro h
    cases e : optOf o y.1 with
    | none => rfl
    | some b =>
      have z := h _ (opt_in e)
      dsimp only at z ⊢
      rw [bne_self_eq_false, Bool.false_or] at z
      exact z
  · intro h x hx
    by_cases c : y.1 = x.1
    · rw [c, opt_mem nd hx] at h
      rw [Bool.or_eq_true]
      exact .inr h
    · rw [Bool.or_eq_true]
      exact .inl (bne_iff_ne.mpr c)
theorem fine_is {o : List (Nat × Sd22.Bytes)} (nd : (o.map (·.1)).Nodup) : Sd22.fine o = (lenTab.all (okLen o) && !(optOf o 52).isSome) := by
  unfold Sd22.fine
  rw [all_swap, any_opt]
  have e : (fun y : Nat × Nat × Nat => o.all fun x => y.1 != x.1 || decide (y.2.1 ≤ x.2.length ∧ x.2.length ≤ y.2.2)) = okLen o := funext fun y => okLen_is nd y
  rw [e]
  have e2 : Sd22.lengths.all (okLen o) = lenTab.all (okLen o) := by
    unfold Sd22.lengths lenTab
    simp only [List.all_cons, List.all_nil]
    generalize okLen o (50, 4, 4) = b1
    generalize okLen o (53, 1, 1) = b2
    generalize okLen o (54, 4, 4) = b3
    generalize okLen o (51, 4, 4) = b4
    generalize okLen o (61, 2, 32) = b5
    generalize okLen o (55, 1, 255) = b6
    generalize okLen o (57, 2, 2) = b7
    revert b1 b2 b3 b4 b5 b6 b7
    decide
  rw [e2]
theorem opts_nd : ∀ (f : Nat) (b : List Nat) (h o : List (Nat × Sd22.Bytes)), (h.map (·.1)).Nodup → Sd22.options f b h = some o → (o.map (·.1)).Nodup
  | 0, b, h, o, _, e => by simp only [Sd22.options] at e; cases e
  | f + 1, [], h, o, _, e => by rw [op_nil] at e; cases e
  | f + 1, [c], h, o, nd, e => by
    by_cases c5 : c = 255
    · subst c5
      rw [op_end] at e
      split at e
      · cases e; exact nd
      · cases e
    · rw [op_one _ _ _ c5] at e; cases e
  | f + 1, c :: n :: r, h, o, nd, e => by
    by_cases c5 : c = 255
    · subst c5
      rw [op_end] at e
      split at e
      · cases e; exact nd
      · cases e
    · by_cases c0 : c = 0
      · subst c0
        rw [op_fill] at e
        exact opts_nd f (n :: r) h o nd e
      · rw [op_cons _ _ _ _ _ c5 c0] at e
        split at e
        · cases e
        · rename_i q
          refine opts_nd f (r.drop n) _ o ?_ e
          rw [List.map_append, List.nodup_append]
          refine ⟨nd, by simp, fun x hx y hy => ?_⟩
          obtain rfl : y = c := by simpa using hy
          intro z
          subst z
          refine q (.inr ?_)
          obtain ⟨z, hz, e1⟩ := List.mem_map.mp hx
          exact List.any_eq_true.mpr ⟨z, hz, by rw [e1, beq_self_eq_true]⟩
theorem opts_b : ∀ (f : Nat) (b : List Nat) (h o : List (Nat × Sd22.Bytes)), B256 b → (∀ x ∈ h, B256 x.2) → Sd22.options f b h = some o → ∀ x ∈ o, B256 x.2
  | 0, b, h, o, _, _, e => by simp only [Sd22.options] at e; cases e
  | f + 1, [], h, o, _, _, e => by rw [op_nil] at e; cases e
  | f + 1, [c], h, o, hb, hh, e => by
    by_cases c5 : c = 255
    · subst c5
      rw [op_end] at e
      split at e
      · cases e; exact hh
      · cases e
    · rw [op_one _ _ _ c5] at e; cases e
  | f + 1, c :: n :: r, h, o, hb, hh, e => by
    by_cases c5 : c = 255
    · subst c5
      rw [op_end] at e
      split at e
      · cases e; exact hh
      · cases e
    · have hr : B256 r := fun x hx => hb x (List.mem_cons_of_mem _ (List.mem_cons_of_mem _ hx))
      by_cases c0 : c = 0
      · subst c0
        rw [op_fill] at e
        exact opts_b f (n :: r) h o (fun x hx => hb x (List.mem_cons_of_mem _ hx)) hh e
      · rw [op_cons _ _ _ _ _ c5 c0] at e
        split at e
        · cases e
        · refine opts_b f (r.drop n) _ o (fun x hx => hr x (List.mem_of_mem_drop hx)) (fun x hx => ?_) e
          rcases List.mem_append.mp hx with hx | hx
          · exact hh x hx
          · obtain rfl := List.mem_singleton.mp hx
            exact fun y hy => hr y (List.mem_of_mem_take hy)
/-! ### a packet read, in plain words -/
def mkP (b : List Nat) (o : List (Nat × Sd22.Bytes)) : Sd22.Packet :=
  ⟨((optOf o 53).getD []).headD 0, (b.drop 4).take 4, (b.drop 8).take 2, Sd22.high ((b.drop 10).take 2), Sd22.high ((b.drop 12).take 4), Sd22.high ((b.drop 24).take 4), (b.drop 28).take 16, o⟩
theorem read_is (b : List Nat) : Sd22.read b = if b.length < 244 ∨ 576 < b.length ∨ b.take 3 ≠ [1, 1, 6] ∨ (b.drop 236).take 4 ≠ Sd22.MAGIC then none else
    (Sd22.options (b.length + 1) (b.drop 240) []).bind fun o => if rightO o = true then some (mkP b o) else none := by
  unfold Sd22.read
  split
  · rfl
  · cases e : Sd22.options (b.length + 1) (b.drop 240) [] with
    | none => rfl
    | some o =>
      show ((o.find? fun x => x.1 == 53).map fun x => x.2.headD 0).bind _ = _
      have e5 : optOf o 53 = (o.find? fun x => x.1 == 53).map fun x => x.2 := rfl
      show _ = if rightO o = true then some (mkP b o) else none
      unfold rightO mkP
      rw [e5]
      cases e2 : o.find? fun x => x.1 == 53 with
      | none =>
        show none = if (Sd22.fine o && false) = true then _ else none
        rw [Bool.and_false, if_neg Bool.false_ne_true]
      | some x =>
        show (if Sd22.fine o = false then none else some _) = if (Sd22.fine o && true) = true then some _ else none
        rw [Bool.and_true]
        cases Sd22.fine o with
        | true => rw [if_neg (fun z => by cases z), if_pos rfl]; rfl
        | false => rw [if_pos rfl, if_neg Bool.false_ne_true]
structure Rd (b : List Nat) (p : Sd22.Packet) : Prop where
  least : 244 ≤ b.length
  most : b.length ≤ 576
  opts : Sd22.options (b.length + 1) (b.drop 240) [] = some p.opts
  right : rightO p.opts = true
  is : p = mkP b p.opts
theorem read_some {b : List Nat} {p : Sd22.Packet} (h : Sd22.read b = some p) : Rd b p := by
  rw [read_is] at h
  split at h
  · cases h
  · rename_i c
    obtain ⟨o, h1, h2⟩ := Option.bind_eq_some_iff.mp h
    split at h2
    · rename_i r
      cases h2
      exact ⟨by omega, by omega, h1, r, rfl⟩
    · cases h2
theorem cut_len (b : List Nat) {i k : Nat} (h : i + k ≤ b.length) : ((b.drop i).take k).length = k := by
  rw [List.length_take, List.length_drop]
  omega
theorem cut_b {b : List Nat} (hb : B256 b) (i k : Nat) : B256 ((b.drop i).take k) := fun x hx => hb x (List.mem_of_mem_drop (List.mem_of_mem_take hx))
theorem high4 {l : List Nat} (h : l.length ≤ 4) (hb : B256 l) : W32 (Sd22.high l) := by
  have z := high_lt l hb
  have z2 : (256 : Nat) ^ l.length ≤ 256 ^ 4 := Nat.pow_le_pow_right (by decide) h
  exact Nat.lt_of_lt_of_le z z2
theorem Rd.len {b : List Nat} {p : Sd22.Packet} (r : Rd b p) {c : Nat} {x : Sd22.Bytes} (h : p.opt c = some x) : ∀ lo hi, (c, lo, hi) ∈ lenTab → lo ≤ x.length ∧ x.length ≤ hi := fun lo hi hm => by
  have nd := opts_nd _ _ [] _ (by simp) r.opts
  have z := r.right
  unfold rightO at z
  rw [fine_is nd, Bool.and_eq_true, Bool.and_eq_true, List.all_eq_true] at z
  have z2 := z.1.1 _ hm
  unfold okLen at z2
  have h' : optOf p.opts c = some x := h
  dsimp only at z2
  rw [h'] at z2
  exact of_decide_eq_true z2
theorem Rd.byt {b : List Nat} {p : Sd22.Packet} (r : Rd b p) (hb : B256 b) {c : Nat} {x : Sd22.Bytes} (h : p.opt c = some x) : B256 x :=
  opts_b _ _ _ _ (fun y hy => hb y (List.mem_of_mem_drop hy)) (fun _ h => by cases h) r.opts _ (opt_in (o := p.opts) h)
theorem read_ok {b : List Nat} {p : Sd22.Packet} (h : Sd22.read b = some p) (hb : B256 b) : MsgOk p := by
  have r := read_some h
  have l1 := r.least
  have e := r.is
  have mach : p.machine = (b.drop 28).take 16 := by rw [e]; rfl
  have m16 : p.machine.length = 16 := by rw [mach]; exact cut_len b (by omega)
  have who : p.who = (p.opt 61).getD (1 :: p.machine.take 6) := rfl
  have wl : p.who ≠ [] ∧ p.who.length ≤ 32 := by
    rw [who]
    cases e61 : p.opt 61 with
    | none => exact ⟨(fun z => by cases z), by show (p.machine.take 6).length + 1 ≤ 32; rw [List.length_take]; omega⟩
    | some x =>
      have z := r.len e61 2 32 (by decide)
      refine ⟨fun q => ?_, z.2⟩
      have q' : x = [] := q
      rw [q'] at z
      exact absurd z.1 (by decide)
  refine ⟨by rw [e]; exact cut_len b (by omega), ?_, m16, by rw [e]; exact high4 (by rw [cut_len b (by omega)]; exact Nat.le_refl _) (cut_b hb _ _), by rw [e]; exact high4 (by rw [cut_len b (by omega)]; exact Nat.le_refl _) (cut_b hb _ _), fun x hx => ?_, fun x hx => ?_, fun x hx => (r.len hx 2 32 (by decide)).2, wl.1, wl.2⟩
  · rw [e]
    have z := high_lt ((b.drop 10).take 2) (cut_b hb _ _)
    rw [cut_len b (by omega)] at z
    exact z
  · obtain ⟨y, hy, rfl⟩ := Option.map_eq_some_iff.mp hx
    exact high4 (r.len hy 4 4 (by decide)).2 (r.byt hb hy)
  · obtain ⟨y, hy, rfl⟩ := Option.map_eq_some_iff.mp hx
    exact high4 (r.len hy 4 4 (by decide)).2 (r.byt hb hy)
end Lp
namespace Lp
open PySem PySem.Spec PyProof.Rows L2 Evl
section
variable {P : Program} {w : World} {K : PySem.W.Frag} {mg : Str → Option Value} {base : Heap} {a : Ad}
theorem lenK_at {ts : List Addr} {i : Nat} {k : Key} {v : V} (h : (lenK ts)[i]? = some (k, v)) : ∃ (x : Nat × Nat × Nat) (p : Addr), lenTab[i]? = some x ∧ ts[i]? = some p ∧ k = Sum.inl (x.1 : Int) ∧ v = .ref p := by
  unfold lenK at h
  rw [List.getElem?_zipWith] at h
  cases e1 : lenTab[i]? with
  | none => rw [e1] at h; cases h
  | some x =>
    cases e2 : ts[i]? with
    | none => rw [e1, e2] at h; cases h
    | some p =>
      rw [e1, e2] at h
      cases h
      exact ⟨x, p, rfl, rfl, rfl, rfl⟩
theorem lenK_len {ts : List Addr} (h : ts.length = 7) : (lenK ts).length = 7 := by
  unfold lenK
  rw [List.length_zipWith, h]
  rfl
theorem lenK_val {ts : List Addr} (h : ts.length = 7) {i : Nat} {x : Nat × Nat × Nat} {p : Addr} (hx : lenTab[i]? = some x) (hp : ts[i]? = some p) : valV (lenK ts) (Sum.inl (x.1 : Int)) = some (.ref p) := by
  match ts, h with
  | [t0, t1, t2, t3, t4, t5, t6], _ =>
    match i, hx, hp with
    | 0, hx, hp => cases hx; cases hp; rfl
    | 1, hx, hp => cases hx; cases hp; rfl
    | 2, hx, hp => cases hx; cases hp; rfl
    | 3, hx, hp => cases hx; cases hp; rfl
    | 4, hx, hp => cases hx; cases hp; rfl
    | 5, hx, hp => cases hx; cases hp; rfl
    | 6, hx, hp => cases hx; cases hp; rfl
    | i + 7, hx, hp => cases hx
theorem find_isSome (o : List (Nat × Sd22.Bytes)) (c : Nat) : (o.find? fun x => x.1 == c).isSome = (optOf o c).isSome := by
  unfold optOf
  rw [Option.isSome_map]
theorem pure_areRight (T : Txt P w K mg base a) (vs : List V) (H : Hp) (Q : VK) (E : XK) (h : sp_areRight K P w a vs H Q E) : t_areRight K P w a { nx := fun _ H' => Q .non H', rt := Q } (start ["options", "number", "bounds"] vs) H := by
  obtain ⟨d, o, rfl, hO, nd, k⟩ := h
  obtain ⟨ts, h7, hD, hTs⟩ := T.lens
  have er : rightO o = (lenTab.all (okLen o) && !(optOf o 52).isSome && (optOf o 53).isSome) := by unfold rightO; rw [fine_is nd, find_isSome]
  have no : ∀ {H'}, Ex H H' → rightO o = false → Q (.bl false) H' := fun {H'} e z => by
    have q := k H' e
    rw [z] at q
    exact q
  refine q_when (et_or (et_B (ev_din (c := 52) ev_c (ev_var rfl) hO)) fun _ => et_B (ev_dnotin (c := 53) ev_c (ev_var rfl) hO)) (fun hb H1 e1 => ?_) (fun hb H1 e1 => ?_)
  · refine no e1 ?_
    rw [er]
    rw [Bool.or_eq_true, Bool.not_eq_true'] at hb
    rcases hb with z | z
    · rw [z]; simp
    · rw [z, Bool.and_false]
  rw [Bool.or_eq_false_iff, Bool.not_eq_false'] at hb
  have hO1 := hO.ex e1
  have S0 : ∀ x y H, Ev (tVar 0) [some (V.ref d), x, y] H (.ref d) := fun x y H => ev_var rfl
  show tFor (iKeysW K P w (tC (.ref a.kLENGTHS))) (gName 1) _ _ [some (V.ref d), none, none] H1
  refine ⟨a.kLENGTHS, lenK ts, rfl, hD, for_keysW (fun i σ H' => ∃ x y, σ = [some (V.ref d), x, y] ∧ Ex H H' ∧ ∀ (j : Nat) z, j < i → lenTab[j]? = some z → okLen o z = true) ⟨none, none, rfl, e1, fun j z hj => absurd hj (Nat.not_lt_zero _)⟩ ?_ ?_⟩
  · rintro i kk v σ H' hk ⟨x, y, rfl, e, hall⟩
    obtain ⟨z, p, hz, hp, rfl, rfl⟩ := lenK_at hk
    have hO' := hO.ex e
    have S1 : ∀ y H, Ev (tVar 1) [some (V.ref d), some (V.int (z.1 : Int)), y] H (.int (z.1 : Int)) := fun y H => ev_var rfl
    have next : ∀ {H2 x y}, Ex H H2 → okLen o z = true → ∃ x' y', [some (V.ref d), x, y] = [some (V.ref d), x', y'] ∧ Ex H H2 ∧ ∀ (j : Nat) z, j < i + 1 → lenTab[j]? = some z → okLen o z = true := fun {H2 x y} e2 hz2 => ⟨x, y, rfl, e2, fun j u hj hu => by
      by_cases c : j = i
      · subst c
        rw [hz] at hu
        cases hu
        exact hz2
      · exact hall j u (by omega) hu⟩
    show tIfS _ _ _ _ [some (V.ref d), some (V.int (z.1 : Int)), y] H'
    refine s_when (et_B (ev_din (S1 _ _) (S0 _ _ _) hO')) (fun hs H2 e2 => ?_) (fun hs H2 e2 => ?_)
    · obtain ⟨b, eb⟩ := Option.isSome_iff_exists.mp hs
      have hO2 := hO'.ex e2
      refine q_asg (v := .ref p) (ev_op (x := .ref a.kLENGTHS) (y := .int (z.1 : Int)) ev_c (S1 _ _) fun H3 e3 Q' q' => ⟨a.kLENGTHS, (z.1 : Int), .ref p, lenK ts, rfl, rfl, hD, lenK_val h7 hz hp, q' H3 (Ex.refl _)⟩) fun H3 e3 => ?_
      show tIfS _ _ _ _ [some (V.ref d), some (V.int (z.1 : Int)), some (V.ref p)] H3
      have hO3 := hO2.ex e3
      have S2 : ∀ H, Ev (tVar 2) [some (V.ref d), some (V.int (z.1 : Int)), some (V.ref p)] H (.ref p) := fun H => ev_var rfl
      have hp3 := hTs i p z hp hz
      have lo : ∀ H, Ev (tOp (rIxT K) (tVar 2) (tC (.int 0))) [some (V.ref d), some (V.int (z.1 : Int)), some (V.ref p)] H (.int (z.2.1 : Int)) := fun H => ev_op (S2 _) ev_c (rv_ixT (hp3 H) (atI_nat (j := 0) rfl))
      have hi : ∀ H, Ev (tOp (rIxT K) (tVar 2) (tC (.int 1))) [some (V.ref d), some (V.int (z.1 : Int)), some (V.ref p)] H (.int (z.2.2 : Int)) := fun H => ev_op (S2 _) ev_c (rv_ixT (hp3 H) (atI_nat (j := 1) rfl))
      have ok_is : okLen o z = (decide (z.2.1 ≤ b.length) && decide (b.length ≤ z.2.2)) := by unfold okLen; rw [eb]; exact Bool.decide_and _ _
      have ch := ev_chain (g := fun i j => decide (i ≤ j)) (g' := fun i j => decide (i ≤ j)) (lo H3) (ev_is (ev_lenG (K := K) (eg_dget (S0 _ _ _) (S1 _ _) hO3 eb)) (by rw [iv_len])) (hi H3)
      refine s_when (b := !(okLen o z)) (et_is (et_not (et_test ch)) (by rw [int_le_nat, int_le_nat, ok_is])) (fun hn H4 e4 => ?_) (fun hn H4 e4 => ?_)
      · refine no (((e.trans e2).trans e3).trans e4) ?_
        rw [Bool.not_eq_true'] at hn
        have z2 : lenTab.all (okLen o) = false := by
          rw [Bool.eq_false_iff]
          intro q
          have z3 := List.all_eq_true.mp q z (List.mem_of_getElem? hz)
          rw [hn] at z3
          cases z3
        rw [er, z2, Bool.false_and, Bool.false_and]
      · rw [Bool.not_eq_false'] at hn
        exact next (((e.trans e2).trans e3).trans e4) hn
    · have eb : optOf o z.1 = none := Option.not_isSome_iff_eq_none.mp (by rw [hs]; exact Bool.false_ne_true)
      exact next (e.trans e2) (by unfold okLen; rw [eb])
  · rintro σ H' ⟨x, y, rfl, e, hall⟩
    rw [lenK_len h7] at hall
    have z : lenTab.all (okLen o) = true := List.all_eq_true.mpr fun u hu => by
      obtain ⟨j, hj⟩ := List.getElem?_of_mem hu
      have hj7 := (List.getElem?_eq_some_iff.mp hj).1
      exact hall j u hj7 hj
    have q := k H' e
    rw [er, z, hb.1, hb.2] at q
    exact q
/-! ### Message -/
theorem ev_opL1' {σ : L2.St} {H : Hp} {ta tb : TE} {r : R2} {xs : List V} {y z : V} (ha : EG ta σ H xs) (hb : ∀ {H}, Ev tb σ H y) (hr : ∀ p H1, H1 p = some (.lst xs) → Ex H H1 → RV r (.ref p) y H1 z) : Ev (tOp r ta tb) σ H z := fun H1 e Q q =>
  ha H1 e _ fun p H2 e2 hp => hb H2 (Ex.refl _) _ fun H3 e3 => hr p H3 (e3 _ _ hp) ((e.trans e2).trans e3) H3 (Ex.refl _) Q fun H4 e4 => q H4 ((e2.trans e3).trans e4)
theorem cut_to (b : List Nat) (k : Nat) : cutV (iv b) none (some (k : Int)) = iv (b.take k) := by
  unfold cutV
  rw [HT.sIx_nat, iv_len]
  show ((iv b).drop 0).take (min k b.length - 0) = _
  rw [List.drop_zero, Nat.sub_zero]
  unfold iv
  rw [← List.map_take]
  by_cases c : k ≤ b.length
  · rw [Nat.min_eq_left c]
  · rw [Nat.min_eq_right (Nat.le_of_not_le c), List.take_of_length_le (Nat.le_refl _), List.take_of_length_le (Nat.le_of_not_le c)]
theorem be_high {l : List Nat} (h : l.length = 2) (hb : B256 l) : Sd22.be 2 (Sd22.high l) = l := by
  match l, h, hb with
  | [x, y], _, hb =>
    have h1 := hb x List.mem_cons_self
    have h2 := hb y (List.mem_cons_of_mem _ List.mem_cons_self)
    show [(256 * (256 * 0 + x) + y) / 256 % 256, (256 * (256 * 0 + x) + y) / 1 % 256] = [x, y]
    rw [Nat.div_one]
    have e1 : (256 * (256 * 0 + x) + y) / 256 % 256 = x := by omega
    have e2 : (256 * (256 * 0 + x) + y) % 256 = y := by omega
    rw [e1, e2]
theorem Kept.idAt {p C dx : Addr} {H H1 : Hp} {fs : List (Str × V)} {v : V} {o : Option Sd22.Bytes} (x : Kept p H H1) (hp : H p = some (.ins C dx fs)) (h : IdAt H v o) : IdAt H1 v o := by
  cases o with
  | none => exact h
  | some b =>
    obtain ⟨l, h1, h2⟩ := h
    exact ⟨l, h1, x.lst hp h2⟩
theorem st_get {σ : L2.St} {H : Hp} {to td ty : TE} {D : Ends} {p C dx d : Addr} {fs : List (Str × V)} {f : Str} {c : Nat} {o : List (Nat × Sd22.Bytes)} (hd : Ev td σ H (.ref d)) (hy : ∀ H, Ev ty σ H (.int (c : Int))) (h : OptsAt H d o) (ho : ∀ H, Ev to σ H (.ref p)) (hp : H p = some (.ins C dx fs)) (hc : Cls K C) (n : NoAttr K C f) (hl : Nat.ble fs.length 20 = true)
    (k : ∀ v H1, Kept p H H1 → H1 p = some (.ins C dx (putF f v fs)) → IdAt H1 v (optOf o c) → D.nx σ H1) : sFld K to (tDGet1 td ty) f D σ H :=
  get_opt hd (hy _) h fun v H1 e1 hv => ho H1 H1 (Ex.refl _) _ fun H2 e2 => ⟨p, C, dx, fs, rfl, e2 _ _ (e1 _ _ hp), hc, n, Nat.lt_of_le_of_lt (Nat.le_of_ble_eq_true hl) (by decide), k v _ (fun b o e hb => by rw [upd_ne hb]; exact e2 _ _ (e1 _ _ e)) upd_same
    (Kept.idAt (H := H2) (p := p) (fun b o e hb => by rw [upd_ne hb]; exact e) (e2 _ _ (e1 _ _ hp)) (hv.ex e2))⟩
theorem pure_mInit (T : Txt P w K mg base a) (vs : List V) (H : Hp) (Q : VK) (E : XK) (h : sp_mInit K P w a vs H Q E) : t_mInit K P w a { nx := fun _ H' => Q .non H', rt := Q } (start ["self", "packet", "options"] vs) H := by
  obtain ⟨m, dx, l, d, b, p, rfl, h0, hl, hB, hR, hO, k⟩ := h
  have r := read_some hR
  have l1 := r.least
  have ok := read_ok hR hB
  have S0 : ∀ H, Ev (tVar 0) (start ["self", "packet", "options"] [V.ref m, V.ref l, V.ref d]) H (.ref m) := fun H => ev_var rfl
  have S1 : ∀ H, Ev (tVar 1) (start ["self", "packet", "options"] [V.ref m, V.ref l, V.ref d]) H (.ref l) := fun H => ev_var rfl
  have S2 : ∀ H, Ev (tVar 2) (start ["self", "packet", "options"] [V.ref m, V.ref l, V.ref d]) H (.ref d) := fun H => ev_var rfl
  have e_is := r.is
  have exid : p.xid = (b.drop 4).take 4 := by rw [e_is]; rfl
  have efl : p.flags = Sd22.high ((b.drop 10).take 2) := by rw [e_is]; rfl
  have ecl : p.client = Sd22.high ((b.drop 12).take 4) := by rw [e_is]; rfl
  have ere : p.relay = Sd22.high ((b.drop 24).take 4) := by rw [e_is]; rfl
  have ema : p.machine = (b.drop 28).take 16 := by rw [e_is]; rfl
  have eki : p.kind = ((optOf p.opts 53).getD []).headD 0 := by rw [e_is]; rfl
  -- number
  refine st_putG (xs := iv p.xid) (eg_new (el_is (el_cut_c (lo := 4) (hi := 8) (S1 _) hl (by decide) (by omega)) (by rw [exid]))) (S0 _) h0 T.c_Message T.n_Message_number rfl fun ln H1 k1 h1 hln => ?_
  rw [messageF_b0] at h1
  -- flags
  refine st_putG (xs := iv (Sd22.be 2 p.flags)) (eg_new (el_is (el_cut_c (lo := 10) (hi := 12) (S1 _) (k1.lst h0 hl) (by decide) (by omega)) (by rw [efl, be_high (cut_len b (by omega)) (cut_b hB _ _)]))) (S0 _) h1 T.c_Message T.n_Message_flags rfl fun lf H2 k2 h2 hlf => ?_
  rw [messageF_b1] at h2
  replace hln := k2.lst h1 hln
  replace k2 := k1.trans k2
  -- client
  refine st_put (v := .int (p.client : Int)) (ev_call1L (eg_new (el_cut_c (lo := 12) (hi := 16) (S1 _) (k2.lst h0 hl) (by decide) (by omega))) fun q H5 e5 h5 => by
    rw [ecl]
    exact spv_numberOf h5 (by rw [cut_len b (by omega)]; decide) (cut_b hB _ _)) (S0 _) h2 T.c_Message T.n_Message_client rfl fun H3 k3 h3 => ?_
  rw [messageF_b2] at h3
  replace hln := k3.lst h2 hln
  replace hlf := k3.lst h2 hlf
  replace k3 := k2.trans k3
  -- relay
  refine st_put (v := .int (p.relay : Int)) (ev_call1L (eg_new (el_cut_c (lo := 24) (hi := 28) (S1 _) (k3.lst h0 hl) (by decide) (by omega))) fun q H5 e5 h5 => by
    rw [ere]
    exact spv_numberOf h5 (by rw [cut_len b (by omega)]; decide) (cut_b hB _ _)) (S0 _) h3 T.c_Message T.n_Message_relay rfl fun H4 k4 h4 => ?_
  rw [messageF_b3] at h4
  replace hln := k4.lst h3 hln
  replace hlf := k4.lst h3 hlf
  replace k4 := k3.trans k4
  -- machine
  refine st_putG (xs := iv p.machine) (eg_new (el_is (el_cut_c (lo := 28) (hi := 44) (S1 _) (k4.lst h0 hl) (by decide) (by omega)) (by rw [ema]))) (S0 _) h4 T.c_Message T.n_Message_machine rfl fun lm H5 k5 h5 hlm => ?_
  rw [messageF_b4] at h5
  replace hln := k5.lst h4 hln
  replace hlf := k5.lst h4 hlf
  replace k5 := k4.trans k5
  -- kind
  obtain ⟨b53, e53⟩ : ∃ x, optOf p.opts 53 = some x := by
    have z := r.right
    unfold rightO at z
    rw [find_isSome, Bool.and_eq_true] at z
    exact Option.isSome_iff_exists.mp z.2
  obtain ⟨k0, rfl⟩ : ∃ k0, b53 = [k0] := by
    have z := r.len (c := 53) e53 1 1 (by decide)
    match b53, z with
    | [k0], _ => exact ⟨k0, rfl⟩
    | [], z => exact absurd z.1 (by decide)
    | _ :: _ :: _, z => simp only [List.length_cons] at z; omega
  rw [e53] at eki
  have eki2 : p.kind = k0 := eki
  refine st_put (v := .int (p.kind : Int)) (ev_opL1' (eg_dget (c := 53) (S2 _) ev_c (k5.opts h0 hO) e53) ev_c fun q H6 hq _ => by
    rw [eki2]
    exact rv_ixL (SqL.of hq) (atI_nat (j := 0) rfl)) (S0 _) h5 T.c_Message T.n_Message_kind rfl fun H6 k6 h6 => ?_
  rw [messageF_b5] at h6
  replace hln := k6.lst h5 hln
  replace hlf := k6.lst h5 hlf
  replace hlm := k6.lst h5 hlm
  replace k6 := k5.trans k6
  -- wanted
  have b50 : ∀ c x, (c = 50 ∨ c = 54) → optOf p.opts c = some x → x.length ≤ 4 ∧ B256 x := fun c x hc hx => ⟨by
    rcases hc with rfl | rfl
    · exact (r.len (c := 50) hx 4 4 (by decide)).2
    · exact (r.len (c := 54) hx 4 4 (by decide)).2, r.byt hB (c := c) hx⟩
  refine st_put (v := oi p.wanted) (ev_call (ea_cons (S2 _) (ea_cons (x := .int ((50 : Nat) : Int)) ev_c ea_nil)) (spv_addressIn (k6.opts h0 hO) fun x hx => b50 50 x (.inl rfl) hx)) (S0 _) h6 T.c_Message T.n_Message_wanted rfl fun H7 k7 h7 => ?_
  rw [messageF_b6] at h7
  replace hln := k7.lst h6 hln
  replace hlf := k7.lst h6 hlf
  replace hlm := k7.lst h6 hlm
  replace k7 := k6.trans k7
  -- server
  refine st_put (v := oi p.server) (ev_call (ea_cons (S2 _) (ea_cons (x := .int ((54 : Nat) : Int)) ev_c ea_nil)) (spv_addressIn (k7.opts h0 hO) fun x hx => b50 54 x (.inr rfl) hx)) (S0 _) h7 T.c_Message T.n_Message_server rfl fun H8 k8 h8 => ?_
  rw [messageF_b7] at h8
  replace hln := k8.lst h7 hln
  replace hlf := k8.lst h7 hlf
  replace hlm := k8.lst h7 hlm
  replace k8 := k7.trans k8
  -- identifier
  refine st_get (c := 61) (S2 _) (fun _ => ev_c) (k8.opts h0 hO) S0 h8 T.c_Message T.n_Message_identifier rfl fun v HA kA hA hvA => ?_
  replace hvA : IdAt HA v (p.opt 61) := hvA
  rw [messageF_b8] at hA
  replace hln := kA.lst h8 hln
  replace hlf := kA.lst h8 hlf
  replace hlm := kA.lst h8 hlm
  replace kA := k8.trans kA
  -- who = identifier
  have fid : ∀ x y : V, List.lookup ("identifier" : Str) [(("number" : Str), V.ref ln), ("flags", V.ref lf), ("client", V.int (p.client : Int)), ("relay", V.int (p.relay : Int)), ("machine", V.ref lm), ("kind", V.int (p.kind : Int)), ("wanted", oi p.wanted), ("server", oi p.server), ("identifier", v)] = some v := fun _ _ =>
    (lk_n (by decide +kernel)).trans ((lk_n (by decide +kernel)).trans ((lk_n (by decide +kernel)).trans ((lk_n (by decide +kernel)).trans ((lk_n (by decide +kernel)).trans ((lk_n (by decide +kernel)).trans ((lk_n (by decide +kernel)).trans ((lk_n (by decide +kernel)).trans lk_h)))))))
  refine st_put (v := v) (ev_fld (S0 _) hA T.c_Message T.n_Message_identifier (fid .non .non)) (S0 _) hA T.c_Message T.n_Message_who rfl fun HB kB hB => ?_
  rw [messageF_b9] at hB
  replace hln := kB.lst hA hln
  replace hlf := kB.lst hA hlf
  replace hlm := kB.lst hA hlm
  replace hvA := kB.idAt hA hvA
  replace kB := kA.trans kB
  have hB' : HB m = some (.ins a.cMessage dx (messageF (.ref ln) (.ref lf) (.int p.client) (.int p.relay) (.ref lm) (.int p.kind) (oi p.wanted) (oi p.server) v v)) := hB
  have who : p.who = (p.opt 61).getD (1 :: p.machine.take 6) := rfl
  refine s_when (et_test (ev_isN (ef_Message_identifier T (S0 _) hB'))) (fun hb HC eC => ?_) (fun hb HC eC => ?_)
  · have hv0 := of_decide_eq_true hb
    subst hv0
    cases e61 : p.opt 61 with
    | some x =>
      rw [e61] at hvA
      obtain ⟨q, z, _⟩ := hvA
      cases z
    | none =>
      have hC := eC _ _ hB'
      have hlmC := eC _ _ hlm
      refine st_putG (xs := iv p.who) (eg_is (eg_app (x := [1]) (y := p.machine.take 6) (eg_new (el_sm (ea_cons ev_c ea_nil) rfl)) (eg_new (el_is (el_sl (ef_Message_machine T (S0 _) hC) eo_none (eo_some ev_c) (SqL.of hlmC)) (cut_to p.machine 6))) (by rw [List.length_take]; simp only [List.length_cons, List.length_nil]; omega)) ?_) (S0 _) hC T.c_Message T.n_Message_who rfl fun lw HD kD hD hlw => ?_
      · rw [who, e61]
        rfl
      · rw [messageF_p_who] at hD
        exact k HD ⟨dx, ln, lf, lm, lw, .non, hD, kD.lst hC (eC _ _ hln), kD.lst hC (eC _ _ hlf), kD.lst hC (eC _ _ hlm), by rw [e61]; rfl, hlw⟩ ((kB.trans fun q o e _ => eC _ _ e).trans kD)
  · cases e61 : p.opt 61 with
    | none =>
      rw [e61] at hvA
      have hv0 : v = .non := hvA
      subst hv0
      exact absurd hb (by decide)
    | some x =>
      rw [e61] at hvA
      obtain ⟨q, rfl, hq⟩ := hvA
      exact k HC ⟨dx, ln, lf, lm, q, .ref q, eC _ _ hB', eC _ _ hln, eC _ _ hlf, eC _ _ hlm, by rw [e61]; exact ⟨q, rfl, eC _ _ hq⟩, by rw [who, e61]; exact eC _ _ hq⟩ (kB.trans fun q o e _ => eC _ _ e)
theorem s_retMake {σ : L2.St} {H : Hp} {D : Ends} {C : Addr} {sp : Sp} {E : XK} {t : TA} {vs : List V} (ha : EvA t σ H vs)
    (k : ∀ H1 x dx, Ex H H1 → H1 x = none → H1 dx = none → dx ≠ x → sp (.ref x :: (vs ++ [])) (upd (upd H1 dx (.own x)) x (.ins C dx [])) (fun v H2 => v = .non ∧ D.rt (.ref x) H2) E) : tRet (tMake C sp [] E t) D σ H :=
  ha H (Ex.refl _) _ fun H1 e1 x dx h1 h2 h3 => k H1 x dx e1 h1 h2 h3
theorem s_asgMake {σ : L2.St} {H : Hp} {D : Ends} {C : Addr} {sp : Sp} {E : XK} {t : TA} {vs : List V} {i : Nat} (ha : EvA t σ H vs)
    (k : ∀ H1 x dx, Ex H H1 → H1 x = none → H1 dx = none → dx ≠ x → sp (.ref x :: (vs ++ [])) (upd (upd H1 dx (.own x)) x (.ins C dx [])) (fun v H2 => v = .non ∧ D.nx (σ.set i (some (.ref x))) H2) E) : tAsg (tMake C sp [] E t) (gName i) D σ H :=
  ha H (Ex.refl _) _ fun H1 e1 x dx h1 h2 h3 => k H1 x dx e1 h1 h2 h3
theorem made_ex {H : Hp} {x dx C : Addr} (hx : H x = none) (hdx : H dx = none) : Ex H (upd (upd H dx (.own x)) x (.ins C dx [])) := fun q o e => by
  rw [upd_ne (ne_of_none e hx), upd_ne (ne_of_none e hdx)]
  exact e
theorem pure_readMessage (T : Txt P w K mg base a) (vs : List V) (H : Hp) (Q : VK) (E : XK) (h : sp_readMessage K P w a vs H Q E) : t_readMessage K P w a { nx := fun _ H' => Q .non H', rt := Q } (start ["packet", "options"] vs) H := by
  obtain ⟨l, b, rfl, hl, hB, kN, kS⟩ := h
  have S0 : ∀ x H, Ev (tVar 0) [some (V.ref l), x] H (.ref l) := fun x H => ev_var rfl
  have lenE : ∀ {x H1}, H1 l = some (.lst (iv b)) → Ev (tCB (rLenS K) (tCons (tVar 0) tNil)) [some (V.ref l), x] H1 (.int (b.length : Int)) := fun e => ev_is (ev_lenG (eg_ref (S0 _ _) e)) (by rw [iv_len])
  rw [read_is] at kN kS
  refine q_when (b := !(decide (244 ≤ b.length) && decide (b.length ≤ 576))) (et_is (et_not (et_test (ev_chain (g := fun i j => decide (i ≤ j)) (g' := fun i j => decide (i ≤ j)) (i := ((244 : Nat) : Int)) (k := ((576 : Nat) : Int)) ev_c (lenE hl) ev_c))) (by rw [int_le_nat, int_le_nat])) (fun hb H1 e1 => ?_) (fun hb H1 e1 => ?_)
  · rw [Bool.not_eq_true', Bool.and_eq_false_iff, decide_eq_false_iff_not, decide_eq_false_iff_not] at hb
    exact kN (if_pos (by omega)) H1 e1
  rw [Bool.not_eq_false', Bool.and_eq_true, decide_eq_true_eq, decide_eq_true_eq] at hb
  have hl1 := e1 _ _ hl
  refine q_when (b := !(b.take 3 == [1, 1, 6]) || !((b.drop 236).take 4 == [99, 130, 83, 99])) (et_or (et_test (ev_neD (eg_new (el_is (el_sl (S0 _ _) eo_none (eo_some ev_c) (SqL.of hl1)) (cut_to b 3))) (y := [1, 1, 6]) (eg_new (el_sm (ea_cons ev_c (ea_cons ev_c (ea_cons ev_c ea_nil))) rfl)))) fun _ =>
    et_test (ev_neD (eg_new (el_cut_c (lo := 236) (hi := 240) (S0 _ _) hl1 (by decide) (by omega))) (y := [99, 130, 83, 99]) (eg_tup ev_c fun H1 _ => T.cookie H1))) (fun hc H2 e2 => ?_) (fun hc H2 e2 => ?_)
  · rw [Bool.or_eq_true, Bool.not_eq_true', Bool.not_eq_true', beq_eq_false_iff_ne, beq_eq_false_iff_ne] at hc
    refine kN (if_pos ?_) H2 (e1.trans e2)
    rcases hc with z | z
    · exact .inr (.inr (.inl z))
    · exact .inr (.inr (.inr z))
  rw [Bool.or_eq_false_iff, Bool.not_eq_false', Bool.not_eq_false', beq_iff_eq, beq_iff_eq] at hc
  have cN : ¬ (b.length < 244 ∨ 576 < b.length ∨ b.take 3 ≠ [1, 1, 6] ∨ (b.drop 236).take 4 ≠ Sd22.MAGIC) := by
    rintro (z | z | z | z)
    · omega
    · omega
    · exact z hc.1
    · exact z hc.2
  rw [if_neg cN] at kN kS
  have e02 := e1.trans e2
  have hl2 := e02 _ _ hl
  -- the options
  show tSeq (tAsg (tCall (sp_readOptions K P w a) [] E0 (tCons (tVar 0) tNil)) (gName 1)) _ _ [some (V.ref l), none] H2
  refine (S0 none H2) H2 (Ex.refl _) _ fun H3 e3 => ?_
  have hl3 := e3 _ _ hl2
  have e03 := e02.trans e3
  refine ⟨l, b, rfl, hl3, by omega, hb.2, hB, fun eo H4 e4 => ?_, fun o eo H4 d e4 hO => ?_⟩
  · rw [eo] at kN
    refine s_if (D := { nx := _, rt := Q }) (b := true) (et_is (et_or (b := true) (et_test (ev_isN (x := .non) (ev_var rfl))) fun hh => absurd hh (by decide)) (by rw [Bool.or_true])) (fun _ H5 e5 => kN rfl H5 ((e03.trans e4).trans e5)) (fun hb => Bool.noConfusion hb)
  · rw [eo] at kN kS
    have nd := opts_nd _ _ [] _ (by simp) eo
    have S1 : ∀ H, Ev (tVar 1) [some (V.ref l), some (V.ref d)] H (.ref d) := fun H => ev_var rfl
    refine s_if (D := { nx := _, rt := Q }) (b := !(rightO o)) (et_is (et_or (et_test (ev_isN (S1 _))) fun _ => et_not (et_B (ev_call (ea_cons (S1 _) ea_nil) (spv_areRight hO nd)))) (by
      rw [show decide (V.ref d = V.non) = false from decide_eq_false (fun z => by cases z), Bool.false_or])) (fun hg H5 e5 => ?_) (fun hg H5 e5 => ?_)
    · rw [Bool.not_eq_true'] at hg
      exact kN (by show (if rightO o = true then _ else none) = none; rw [hg, if_neg Bool.false_ne_true]) H5 ((e03.trans e4).trans e5)
    · rw [Bool.not_eq_false'] at hg
      have e05 := (e03.trans e4).trans e5
      have hr : Sd22.read b = some (mkP b o) := by
        rw [read_is, if_neg cN, eo]
        show (if rightO o = true then _ else none) = _
        rw [hg, if_pos rfl]
      refine s_retMake (D := { nx := fun _ H' => Q .non H', rt := Q }) (ea_cons (S0 (some (.ref d)) H5) (ea_cons (S1 _) ea_nil)) fun H7 m dx e57 hm hdx ne => ?_
      have keep : ∀ q x, H7 q = some x → upd (upd H7 dx (.own m)) m (.ins a.cMessage dx []) q = some x := fun q x e => by
        rw [upd_ne (ne_of_none e hm), upd_ne (ne_of_none e hdx)]
        exact e
      have hO7 : OptsAt (upd (upd H7 dx (.own m)) m (.ins a.cMessage dx [])) d o := (hO.ex (e5.trans e57)).ex keep
      refine ⟨m, dx, l, d, b, mkP b o, rfl, upd_same, keep _ _ (e57 _ _ (e05 _ _ hl)), hB, hr, hO7, fun H8 hM k8 => ⟨rfl, ?_⟩⟩
      refine kS (mkP b o) (by show (if rightO o = true then _ else none) = _; rw [hg, if_pos rfl]) H8 m ?_ hM
      intro q x e
      have z := e57 _ _ (e05 _ _ e)
      exact k8 _ _ (keep _ _ z) (ne_of_none z hm)
end
end Lp
namespace Lp
open PySem PySem.Spec PyProof.Rows L2 Evl
/-! ### the free one whose time was over first -/
theorem arg_fold (t : Nat → Nat) (ix : List Nat) : ∀ k : Nat, k < ix.length →
    (ix.take (k + 1)).foldl (fun (m : Option Nat) i => match m with
      | none => some i
      | some j => if t i < t j then some i else some j) none = some (ix.getD (argBest (btI (ix.map fun i => ((t i : Nat) : Int))) k) 0) ∧ argBest (btI (ix.map fun i => ((t i : Nat) : Int))) k ≤ k
  | 0, h => by
    match ix, h with
    | i :: ix, _ => exact ⟨rfl, Nat.le_refl _⟩
  | k + 1, h => by
    obtain ⟨ih, hle⟩ := arg_fold t ix k (Nat.lt_of_succ_lt h)
    have hk : ix[k + 1]? = some ix[k + 1] := List.getElem?_eq_getElem h
    rw [take_snoc hk, List.foldl_append, ih]
    generalize eb : argBest (btI (ix.map fun i => ((t i : Nat) : Int))) k = q at *
    have hq : q < ix.length := by omega
    have g1 : (ix.map fun i => ((t i : Nat) : Int)).getD (k + 1) 0 = ((t ix[k + 1] : Nat) : Int) := by
      rw [List.getD_eq_getElem?_getD, List.getElem?_map, hk]
      rfl
    have g2 : (ix.map fun i => ((t i : Nat) : Int)).getD q 0 = ((t (ix.getD q 0) : Nat) : Int) := by
      rw [List.getD_eq_getElem?_getD, List.getElem?_map, List.getD_eq_getElem?_getD, List.getElem?_eq_getElem hq]
      rfl
    have st : argBest (btI (ix.map fun i => ((t i : Nat) : Int))) (k + 1) = if t ix[k + 1] < t (ix.getD q 0) then k + 1 else q := by
      show (if btI (ix.map fun i => ((t i : Nat) : Int)) (k + 1) (argBest (btI (ix.map fun i => ((t i : Nat) : Int))) k) = true then k + 1 else argBest (btI (ix.map fun i => ((t i : Nat) : Int))) k) = _
      rw [eb]
      unfold btI
      rw [g1, g2]
      by_cases c : t ix[k + 1] < t (ix.getD q 0)
      · rw [if_pos c, if_pos (decide_eq_true (by omega))]
      · rw [if_neg c, if_neg (by rw [decide_eq_false (by omega)]; exact Bool.false_ne_true)]
    rw [st]
    show ((if t ix[k + 1] < t (ix.getD q 0) then some ix[k + 1] else some (ix.getD q 0)) = _) ∧ _
    by_cases c : t ix[k + 1] < t (ix.getD q 0)
    · rw [if_pos c, if_pos c]
      refine ⟨?_, Nat.le_refl _⟩
      rw [List.getD_eq_getElem?_getD, hk]
      rfl
    · rw [if_neg c, if_neg c]
      exact ⟨rfl, by omega⟩
theorem min_is (t : Nat → Nat) (as : List Addr) (ix : List Nat) : minV (ix.map fun i => as.getD i 0) (ix.map fun i => ((t i : Nat) : Int)) = atIx as (ix.foldl (fun (m : Option Nat) i => match m with
      | none => some i
      | some j => if t i < t j then some i else some j) none) := by
  unfold minV
  rw [List.length_map]
  by_cases c : ix.length = 0
  · rw [if_pos c, List.length_eq_zero_iff.mp c]
    rfl
  · rw [if_neg c]
    obtain ⟨h1, h2⟩ := arg_fold t ix (ix.length - 1) (by omega)
    rw [List.take_of_length_le (by omega)] at h1
    rw [h1]
    have hq : argBest (btI (ix.map fun i => ((t i : Nat) : Int))) (ix.length - 1) < ix.length := by omega
    show V.ref _ = V.ref (as.getD _ 0)
    refine congrArg V.ref ?_
    rw [List.getD_eq_getElem?_getD, List.getElem?_map, List.getD_eq_getElem?_getD (l := ix), List.getElem?_eq_getElem hq]
    rfl
section
variable {P : Program} {w : World} {K : PySem.W.Frag} {mg : Str → Option Value} {base : Heap} {a : Ad}
theorem PlacesAt.at {H : Hp} {l : Addr} {as : List Addr} {f : Nat} {L : List Sd22.Lease} (h : PlacesAt a H l as f L) {i : Nat} (hi : i < L.length) : as[i]? = some (as.getD i 0) ∧ PlaceAt a H (as.getD i 0) ((f : Int) + i) (L.getD i Sd22.none_) := by
  have h1 : as[i]? = some (as.getD i 0) := by
    have z : i < as.length := by rw [h.2.1]; exact hi
    rw [List.getD_eq_getElem?_getD, List.getElem?_eq_getElem z]
    rfl
  have h2 : L[i]? = some (L.getD i Sd22.none_) := by
    rw [List.getD_eq_getElem?_getD, List.getElem?_eq_getElem hi]
    rfl
  exact ⟨h1, h.2.2.2 i _ _ h1 h2⟩
theorem pure_oldest (T : Txt P w K mg base a) (vs : List V) (H : Hp) (Q : VK) (E : XK) (h : sp_oldest K P w a vs H Q E) : t_oldest K P w a { nx := fun _ H' => Q .non H', rt := Q } (start ["places", "now", "place", "free"] vs) H := by
  obtain ⟨l, as, f, L, now, rfl, hP, hT, k⟩ := h
  have hlen := hP.2.1
  have h256 := hP.2.2.1
  have hm : (as.map V.ref).length = L.length := by rw [List.length_map, hlen]
  refine q_asgL (el_lcL (a := l) (xs := as.map V.ref) (fun i => freeL now (L.getD i Sd22.none_)) (fun i => .ref (as.getD i 0)) (ev_var rfl) (SqL.of hP.1) (by rw [hm]; omega) (fun x => rfl) (fun i x H1 e1 hx => ?_) (fun i x H1 e1 hx _ => ?_)) fun fr H1 _ e1 hfr => ?_
  · rw [List.getElem?_map] at hx
    obtain ⟨p, hp, rfl⟩ := Option.map_eq_some_iff.mp hx
    have hi : i < L.length := by rw [← hlen]; exact (List.getElem?_eq_some_iff.mp hp).1
    obtain ⟨z1, z2⟩ := hP.at hi
    rw [hp] at z1
    rw [← Option.some.inj z1] at z2
    have hpl := z2.ex e1
    obtain ⟨dx, o1, h1, h2⟩ := id hpl
    exact et_B (ev_meth (ev_var (v := .ref p) rfl) h1 placeF_m_is_free_at (ea_cons (x := .int (now : Int)) (ev_var rfl) ea_nil) (spv_freeAt hpl))
  · rw [List.getElem?_map] at hx
    obtain ⟨p, hp, rfl⟩ := Option.map_eq_some_iff.mp hx
    have e : as.getD i 0 = p := by rw [List.getD_eq_getElem?_getD, hp]; rfl
    rw [e]
    exact ev_var rfl
  generalize eix : (List.range L.length).filter (fun i => freeL now (L.getD i Sd22.none_)) = ix
  have hix : ∀ i ∈ ix, i < L.length := fun i hi => by
    rw [← eix] at hi
    exact List.mem_range.mp (List.mem_filter.mp hi).1
  have egv : given (as.map V.ref).length (fun i => freeL now (L.getD i Sd22.none_)) (fun i => V.ref (as.getD i 0)) = (ix.map fun i => as.getD i 0).map V.ref := by
    unfold given
    rw [hm, eix, List.map_map]
    rfl
  rw [egv] at hfr
  have hP1 := hP.ex e1
  have eold : oldIx L now = match ix.find? fun i => (L.getD i Sd22.none_).who == [] with
      | some i => some i
      | none => ix.foldl (fun (m : Option Nat) i => match m with
        | none => some i
        | some j => if (L.getD i Sd22.none_).until_ < (L.getD j Sd22.none_).until_ then some i else some j) none := by
    unfold oldIx
    rw [eix]
    all_goals rfl
  show tSeq _ _ _ [some (V.ref l), some (.int (now : Int)), none, some (V.ref fr)] H1
  refine q_forL (a := fr) (xs := (ix.map fun i => as.getD i 0).map V.ref) (ev_var rfl) (SqL.of hfr) (fun i σ H' => ∃ v, σ = [some (V.ref l), some (.int (now : Int)), v, some (V.ref fr)] ∧ Ex H1 H' ∧ ∀ (j q : Nat), j < i → ix[j]? = some q → ((L.getD q Sd22.none_).who == []) = false)
    (fun H2 e2 => ⟨none, rfl, e2, fun j q hj => absurd hj (Nat.not_lt_zero _)⟩) (fun i σ' H' _ ⟨v, _, e, _⟩ => ex_l e (SqL.of hfr)) ?_ ?_
  · rintro i x σ' H' hx ⟨v, rfl, e, hno⟩
    rw [List.getElem?_map, List.getElem?_map] at hx
    cases hq : ix[i]? with
    | none => rw [hq] at hx; cases hx
    | some q =>
      rw [hq] at hx
      cases hx
      have hql := hix q (List.mem_of_getElem? hq)
      obtain ⟨z1, z2⟩ := hP1.at hql
      obtain ⟨dx, o1, h1, h2⟩ := z2.ex e
      show tIfS _ _ _ _ [some (V.ref l), some (.int (now : Int)), some (V.ref (as.getD q 0)), some (V.ref fr)] H'
      refine s_when (et_test (ev_eqD (ef_Place_owner T (ev_var rfl) h1 |> fun z => eg_ref z h2) (y := []) eg_nil)) (fun hb H2 e2 => ?_) (fun hb H2 e2 => ?_)
      · refine s_ret (v := .ref (as.getD q 0)) (ev_var rfl) fun H3 e3 => ?_
        have e13 := ((e1.trans e).trans e2).trans e3
        have z := k H3 (LamX.ExtN.of e13) (hT.ex e13)
        have ef : (ix.find? fun i => (L.getD i Sd22.none_).who == []) = some q := by
          rw [List.find?_eq_some_iff_getElem]
          refine ⟨hb, i, (List.getElem?_eq_some_iff.mp hq).1, (List.getElem?_eq_some_iff.mp hq).2, fun j hj => ?_⟩
          rw [hno j _ hj (List.getElem?_eq_getElem _)]
          rfl
        rw [eold, ef] at z
        exact z
      · refine ⟨_, rfl, e.trans e2, fun j u hj hu => ?_⟩
        by_cases c : j = i
        · subst c
          rw [hq] at hu
          cases hu
          exact hb
        · exact hno j u (by omega) hu
  · rintro σ' H' ⟨v, rfl, e, hno⟩
    rw [List.length_map, List.length_map] at hno
    have ef : (ix.find? fun i => (L.getD i Sd22.none_).who == []) = none := by
      rw [List.find?_eq_none]
      intro q hq hc
      obtain ⟨j, hj⟩ := List.getElem?_of_mem hq
      rw [hno j q (List.getElem?_eq_some_iff.mp hj).1 hj] at hc
      cases hc
    have e13 := e1.trans e
    have hP' := hP1.ex e
    refine ⟨.ref fr, rfl, fr, ix.map fun i => as.getD i 0, ix.map fun i => (((L.getD i Sd22.none_).until_ : Nat) : Int), rfl, e _ _ hfr, fun j p hp => ?_, hT.ex e13, fun H2 e2 hT2 => ?_⟩
    · rw [List.getElem?_map] at hp
      obtain ⟨q, hq, rfl⟩ := Option.map_eq_some_iff.mp hp
      obtain ⟨z1, z2⟩ := hP'.at (hix q (List.mem_of_getElem? hq))
      obtain ⟨dx, o1, h1, h2⟩ := z2
      refine ⟨dx, _, h1, ?_⟩
      rw [placeF_till]
      refine congrArg (fun z => some (V.int z)) ?_
      rw [List.getD_eq_getElem?_getD (l := ix.map _), List.getElem?_map, hq]
      rfl
    · have z := k H2 ((LamX.ExtN.of e13).trans e2) hT2
      rw [eold, ef] at z
      rw [min_is (fun i => (L.getD i Sd22.none_).until_) as ix]
      exact z
end
end Lp
namespace Lp
open PySem PySem.Spec PyProof.Rows L2 Evl
/-! ### the specification's words, told over the list of leases -/
theorem range_find {α : Type} (L : List α) (d : α) (p : α → Bool) : (List.range L.length).find? (fun i => p (L.getD i d)) = L.findIdx? p := by
  have ix : ∀ {i : Nat}, i < L.length → L.getD i d = L[i]?.getD d := fun {i} _ => List.getD_eq_getElem?_getD ..
  cases e : L.findIdx? p with
  | none =>
    rw [List.findIdx?_eq_none_iff] at e
    rw [List.find?_eq_none]
    intro i hi hc
    have hl := List.mem_range.mp hi
    rw [ix hl, List.getElem?_eq_getElem hl] at hc
    have z := e _ (List.getElem_mem hl)
    rw [show (some L[i]).getD d = L[i] from rfl, z] at hc
    cases hc
  | some i =>
    rw [List.findIdx?_eq_some_iff_getElem] at e
    obtain ⟨hl, h1, h2⟩ := e
    rw [List.find?_eq_some_iff_getElem]
    refine ⟨?_, i, by rw [List.length_range]; exact hl, List.getElem_range .., fun j hj => ?_⟩
    · rw [ix hl, List.getElem?_eq_getElem hl]
      exact h1
    · rw [List.getElem_range, ix (Nat.lt_trans hj hl), List.getElem?_eq_getElem (Nat.lt_trans hj hl)]
      have z := h2 j hj
      show (!(p L[j])) = true
      rw [Bool.not_eq_true'] at *
      simpa using z
theorem find_congr {α : Type} {p q : α → Bool} : ∀ {l : List α}, (∀ x ∈ l, p x = q x) → l.find? p = l.find? q
  | [], _ => rfl
  | x :: l, h => by
    rw [List.find?_cons, List.find?_cons, h x List.mem_cons_self, find_congr fun y hy => h y (List.mem_cons_of_mem _ hy)]
variable {A : Sd22.Abs}
theorem Good.at (g : Good A) {i : Nat} (hi : i < A.net.count) : A.leases[i]? = some (A.at_ i) := by
  have hl : i < A.leases.length := by rw [g.len]; exact hi
  show _ = some (A.leases.getD i Sd22.none_)
  rw [List.getD_eq_getElem?_getD, List.getElem?_eq_getElem hl]
  rfl
theorem Good.mem (g : Good A) {i : Nat} (hi : i < A.net.count) : A.at_ i ∈ A.leases := List.mem_of_getElem? (g.at hi)
theorem Good.own (g : Good A) {i : Nat} (hi : i < A.net.count) {who : Sd22.Bytes} (hw : who ≠ []) : ((A.at_ i).who == who && (A.at_ i).state != 3) = ((A.at_ i).who == who) := by
  by_cases c : (A.at_ i).who = who
  · have z : (A.at_ i).state ≠ 3 := fun e => hw (by rw [← c]; exact g.refused _ (g.mem hi) e)
    rw [bne_iff_ne.mpr z, Bool.and_true]
  · rw [beq_eq_false_iff_ne.mpr c, Bool.false_and]
theorem mine_is (g : Good A) {who : Sd22.Bytes} (hw : who ≠ []) : A.mine who = ownIx A.leases who := by
  unfold Sd22.Abs.mine ownIx
  rw [← range_find A.leases Sd22.none_, g.len]
  exact find_congr fun i hi => g.own (List.mem_range.mp hi) hw
theorem free_is (i : Nat) : A.free i = freeL A.now (A.at_ i) := rfl
theorem fold_filter {α β : Type} (f : β → α → β) (p : α → Bool) : ∀ (l : List α) (b : β), (l.filter p).foldl f b = l.foldl (fun b x => if p x = false then b else f b x) b
  | [], _ => rfl
  | x :: l, b => by
    rw [List.filter_cons, List.foldl_cons]
    cases e : p x with
    | true => rw [if_pos rfl, List.foldl_cons, fold_filter f p l]; rfl
    | false => rw [if_neg Bool.false_ne_true, fold_filter f p l]; rfl
theorem find_filter {α : Type} (p q : α → Bool) : ∀ l : List α, (l.filter p).find? q = l.find? fun x => p x && q x
  | [] => rfl
  | x :: l => by
    rw [List.filter_cons, List.find?_cons]
    cases e : p x with
    | true =>
      rw [if_pos rfl, List.find?_cons, Bool.true_and, find_filter p q l]
    | false =>
      rw [if_neg Bool.false_ne_true, Bool.false_and, find_filter p q l]
theorem old_is (g : Good A) : oldIx A.leases A.now = match (List.range A.net.count).find? (fun i => A.free i && (A.at_ i).who == []) with
    | some i => some i
    | none => (List.range A.net.count).foldl (fun (m : Option Nat) i => if A.free i = false then m else match m with
      | none => some i
      | some j => if (A.at_ i).until_ < (A.at_ j).until_ then some i else some j) none := by
  unfold oldIx
  dsimp only
  rw [find_filter, fold_filter, g.len]
  rfl
theorem choose_is (g : Good A) {who : Sd22.Bytes} (hw : who ≠ []) (wanted : Option Nat) : A.choose who wanted = match ownIx A.leases who with
    | some i => some i
    | none => match (wanted.bind A.place).filter fun i => A.free i with
      | some i => some i
      | none => oldIx A.leases A.now := by
  rw [old_is g, ← mine_is g hw]
  rfl
theorem place_some {x i : Nat} (h : A.place x = some i) : i < A.net.count ∧ A.net.first + i = x := by
  unfold Sd22.Abs.place at h
  split at h
  · cases h
    omega
  · cases h
theorem ownIx_some {L : List Sd22.Lease} {who : Sd22.Bytes} {i : Nat} (h : ownIx L who = some i) : i < L.length ∧ (L.getD i Sd22.none_).who = who := by
  unfold ownIx at h
  rw [List.findIdx?_eq_some_iff_getElem] at h
  obtain ⟨hi, h1, _⟩ := h
  refine ⟨hi, ?_⟩
  rw [List.getD_eq_getElem?_getD, List.getElem?_eq_getElem hi]
  exact eq_of_beq h1
theorem ownIx_none {L : List Sd22.Lease} {who : Sd22.Bytes} (h : ownIx L who = none) : ∀ l ∈ L, l.who ≠ who := fun l hl e => by
  unfold ownIx at h
  rw [List.findIdx?_eq_none_iff] at h
  have z := h l hl
  rw [e, beq_self_eq_true] at z
  cases z
/-- i is the only one of who's -/
theorem Good.alone (g : Good A) {i j : Nat} (hi : i < A.net.count) {x : Sd22.Lease} (hx : A.leases[j]? = some x) {who : Sd22.Bytes} (hw : who ≠ []) (h1 : (A.at_ i).who = who) (h2 : x.who = who) : j = i :=
  (g.one i j _ _ (g.at hi) hx (h1.trans h2.symm) (by rw [h1]; exact hw)).symm
theorem ownIx_of (g : Good A) {i : Nat} (hi : i < A.net.count) {who : Sd22.Bytes} (hw : who ≠ []) (h : (A.at_ i).who = who) : ownIx A.leases who = some i := by
  cases e : ownIx A.leases who with
  | none => exact absurd h (ownIx_none e _ (g.mem hi))
  | some j =>
    obtain ⟨hj, h2⟩ := ownIx_some e
    have hx : A.leases[j]? = some (A.leases.getD j Sd22.none_) := by
      rw [List.getD_eq_getElem?_getD, List.getElem?_eq_getElem hj]
      rfl
    rw [g.alone hi hx hw h h2]
theorem back_is (g : Good A) {who : Sd22.Bytes} (hw : who ≠ []) : (A.leases.map fun l => if l.state = 1 ∧ l.who = who then { l with state := 0, until_ := A.now } else l) = match ownIx A.leases who with
    | none => A.leases
    | some i => if (A.leases.getD i Sd22.none_).state = 1 then A.leases.set i ⟨0, A.now, who⟩ else A.leases := by
  cases e : ownIx A.leases who with
  | none =>
    have no := ownIx_none e
    exact (List.map_congr_left fun l hl => if_neg fun c => no l hl c.2).trans (List.map_id _)
  | some i =>
    obtain ⟨hi, h2⟩ := ownIx_some e
    have hc : i < A.net.count := by rw [← g.len]; exact hi
    have ha : A.leases[i]? = some (A.leases.getD i Sd22.none_) := g.at hc
    dsimp only
    refine List.ext_getElem? fun j => ?_
    rw [List.getElem?_map]
    by_cases c : j = i
    · subst c
      rw [ha]
      by_cases c2 : (A.leases.getD j Sd22.none_).state = 1
      · rw [if_pos c2, List.getElem?_set_self hi]
        show some (if _ ∧ _ then _ else _) = _
        rw [if_pos ⟨c2, h2⟩, ← h2]
      · rw [if_neg c2, ha]
        show some (if _ ∧ _ then _ else _) = _
        rw [if_neg fun z => c2 z.1]
    · have e1 : (if (A.leases.getD i Sd22.none_).state = 1 then A.leases.set i ⟨0, A.now, who⟩ else A.leases)[j]? = A.leases[j]? := by
        split
        · rw [List.getElem?_set_ne fun z => c z.symm]
        · rfl
      rw [e1]
      cases hj : A.leases[j]? with
      | none => rfl
      | some x =>
        show some (if _ ∧ _ then _ else _) = _
        rw [if_neg fun z => c (g.alone hc hj hw h2 z.2)]
/-! ### answers -/
theorem reply_is (A : Sd22.Abs) (p : Sd22.Packet) (kind yours : Nat) (lent : Bool) (h6 : kind = 6 → yours = 0) (hl : lent = decide (yours ≠ 0)) : Sd22.reply A p kind yours lent = bytesB A.net p kind yours := by
  have b4 : ∀ n, (Sd22.be 4 n).length = 4 := be_len 4
  have eo : ([53, 1, kind] ++ (54 :: 4 :: Sd22.be 4 A.net.server ++ (if kind = 6 then [] else (if lent = true then 51 :: 4 :: Sd22.be 4 A.net.time ++ (58 :: 4 :: Sd22.be 4 (A.net.time / 2) ++ 59 :: 4 :: Sd22.be 4 (A.net.time / 8 * 7)) else []) ++ (1 :: 4 :: Sd22.be 4 A.net.mask ++ (3 :: 4 :: Sd22.be 4 A.net.router ++ 6 :: 4 :: Sd22.be 4 A.net.names))))) ++ ((match p.opt 61 with
      | some c => 61 :: c.length :: c
      | none => []) ++ [255]) = optsB A.net p kind yours := by
    unfold optsB
    subst hl
    have e61 : (match p.opt 61 with
      | some c => 61 :: c.length :: c
      | none => ([] : List Nat)) = match p.opt 61 with
      | none => []
      | some b => 61 :: b.length :: b := by cases p.opt 61 <;> rfl
    rw [e61]
    by_cases c6 : kind = 6
    · rw [if_pos c6, if_pos c6, if_pos (h6 c6), List.append_nil, List.append_nil, List.append_nil, List.append_assoc]
      simp only [List.append_assoc]
      all_goals rfl
    · rw [if_neg c6, if_neg c6]
      by_cases cy : yours = 0
      · rw [if_pos cy, decide_eq_false (fun z => z cy), if_neg Bool.false_ne_true]
        simp only [List.append_assoc, List.nil_append, List.append_nil]
        all_goals rfl
      · rw [if_neg cy, decide_eq_true cy, if_pos rfl]
        simp only [List.append_assoc]
        all_goals rfl
  have eb : headB p kind yours ++ optsB A.net p kind yours = [2, 1, 6, 0] ++ (p.xid ++ ([0, 0] ++ (Sd22.be 2 p.flags ++ (Sd22.be 4 (if kind = 5 then p.client else 0) ++ (Sd22.be 4 yours ++ (Sd22.be 4 0 ++ (Sd22.be 4 p.relay ++ (p.machine ++ (List.replicate 192 0 ++ (Sd22.MAGIC ++ (([53, 1, kind] ++ (54 :: 4 :: Sd22.be 4 A.net.server ++ (if kind = 6 then [] else (if lent = true then 51 :: 4 :: Sd22.be 4 A.net.time ++ (58 :: 4 :: Sd22.be 4 (A.net.time / 2) ++ 59 :: 4 :: Sd22.be 4 (A.net.time / 8 * 7)) else []) ++ (1 :: 4 :: Sd22.be 4 A.net.mask ++ (3 :: 4 :: Sd22.be 4 A.net.router ++ 6 :: 4 :: Sd22.be 4 A.net.names))))) ++ ((match p.opt 61 with
      | some c => 61 :: c.length :: c
      | none => []) ++ [255])))))))))))) := by
    rw [← eo]
    unfold headB Sd22.MAGIC
    simp only [List.append_assoc]
  unfold bytesB
  rw [eb]
  unfold Sd22.reply
  simp only [b4, List.length_cons, List.length_nil, List.append_assoc]
  rfl
theorem said_is (A : Sd22.Abs) (p : Sd22.Packet) (kind yours : Nat) (lent : Bool) (h6 : kind = 6 → yours = 0) (hl : lent = decide (yours ≠ 0)) : saidL (Sd22.say A p kind yours lent) = ansB A.net p kind yours := by
  unfold Sd22.say saidL ansB
  dsimp only
  rw [reply_is A p kind yours lent h6 hl]
/-! ### what stays right -/
theorem good_set (g : Good A) {i : Nat} (hi : i < A.net.count) {l : Sd22.Lease} (h3 : l.state = 3 → l.who = []) (hs : l.state ≤ 3) (hw : l.who.length ≤ 32) (h1 : ∀ (j : Nat) x, A.leases[j]? = some x → x.who = l.who → l.who ≠ [] → j = i) : Good (A.set i l) := by
  have hl : i < A.leases.length := by rw [g.len]; exact hi
  have mem : ∀ x ∈ A.leases.set i l, x ∈ A.leases ∨ x = l := fun x hx => List.mem_or_eq_of_mem_set hx
  have gt : ∀ (j : Nat) x, (A.leases.set i l)[j]? = some x → (j = i ∧ x = l) ∨ (j ≠ i ∧ A.leases[j]? = some x) := fun j x h => by
    by_cases c : j = i
    · subst c
      rw [List.getElem?_set_self hl] at h
      exact .inl ⟨rfl, (Option.some.inj h).symm⟩
    · rw [List.getElem?_set_ne fun z => c z.symm] at h
      exact .inr ⟨c, h⟩
  refine ⟨g.net, by show (A.leases.set i l).length = _; rw [List.length_set]; exact g.len, fun x hx e => ?_, fun x hx => ?_, fun x hx => ?_, fun j k x y hx hy e hn => ?_⟩
  · rcases mem x hx with z | rfl
    · exact g.refused x z e
    · exact h3 e
  · rcases mem x hx with z | rfl
    · exact g.state x z
    · exact hs
  · rcases mem x hx with z | rfl
    · exact g.wlen x z
    · exact hw
  · rcases gt j x hx with ⟨ej, ex⟩ | ⟨c1, hx'⟩
    · rcases gt k y hy with ⟨ek, ey⟩ | ⟨c2, hy'⟩
      · rw [ej, ek]
      · subst ex
        exact absurd (h1 k y hy' e.symm hn) c2
    · rcases gt k y hy with ⟨ek, ey⟩ | ⟨c2, hy'⟩
      · subst ey
        exact absurd (h1 j x hx' e (by rw [← e]; exact hn)) c1
      · exact g.one j k x y hx' hy' e hn
end Lp
namespace Lp
open PySem PySem.Spec PyProof.Rows L2 Evl
/-! ### the lender in the heap -/
theorem first_name {C1 C2 d1 d2 : Addr} {f g : Str} {v1 v2 : V} {r1 r2 : List (Str × V)} (h : (f == g) = false) : HO.ins C1 d1 ((f, v1) :: r1) ≠ HO.ins C2 d2 ((g, v2) :: r2) := fun z => by
  injection z with _ _ z
  injection z with z _
  injection z with z _
  rw [z, beq_self_eq_true] at h
  cases h
abbrev LT : List Str := ["address", "net"]
abbrev DT : List Str := ["address", "net", "lender"]
theorem NetAt.fr {a : Ad} {H H' : Hp} {T : List Str} {n : Addr} {N : Sd22.Net} (h : NetAt a H n N) (e : FrX T H H') (hT : ("server" : Str) ∉ T) : NetAt a H' n N := let ⟨dx, h1⟩ := h; ⟨dx, e _ _ h1 hT⟩
theorem MsgAt.fr {a : Ad} {H H' : Hp} {T : List Str} {m : Addr} {p : Sd22.Packet} (h : MsgAt a H m p) (e : FrX T H H') (hT : ("number" : Str) ∉ T) : MsgAt a H' m p := by
  obtain ⟨dx, ln, lf, lm, lw, v, h1, h2, h3, h4, h5, h6⟩ := h
  refine ⟨dx, ln, lf, lm, lw, v, e _ _ h1 hT, e.lst h2, e.lst h3, e.lst h4, ?_, e.lst h6⟩
  cases q : p.opt 61 with
  | none => rw [q] at h5; exact h5
  | some b =>
    rw [q] at h5
    obtain ⟨l, z1, z2⟩ := h5
    exact ⟨l, z1, e.lst z2⟩
theorem num_LT : ("number" : Str) ∉ LT := by decide +kernel
theorem num_DT : ("number" : Str) ∉ DT := by decide +kernel
theorem srv_LT : ("server" : Str) ∉ LT := by decide +kernel
theorem Good.lt {A : Sd22.Abs} (g : Good A) {i : Nat} (hi : i < A.net.count) : i < A.leases.length := by rw [g.len]; exact hi
theorem LenderAt.turned {a : Ad} {H H' : Hp} {d : Addr} {as : List Addr} {A : Sd22.Abs} {i : Nat} {ls : Sd22.Lease} (h : LenderAt a H d as A) (g : Good A) (hi : i < A.net.count) (kp : Kept (as.getD i 0) H H') (hp : PlaceAt a H' (as.getD i 0) ((A.net.first : Int) + i) ls) :
    LenderAt a H' d as (A.set i ls) ∧ FrX LT H H' := by
  obtain ⟨t, nd, dx, n, l, h1, ⟨dn, h2⟩, hP⟩ := h
  obtain ⟨h3, dxp, o, hp0, ho0⟩ := hP.at (g.lt hi)
  have ne1 : d ≠ as.getD i 0 := ne_of h1 hp0 (first_name (by decide +kernel))
  have ne2 : n ≠ as.getD i 0 := ne_of h2 hp0 (first_name (by decide +kernel))
  refine ⟨⟨kp.tab hp0 t, nd, dx, n, l, kp _ _ h1 ne1, ⟨dn, kp _ _ h2 ne2⟩, kp.lst hp0 hP.1, by show as.length = (A.leases.set i ls).length; rw [List.length_set]; exact hP.2.1, hP.2.2.1, fun j q x hq hx => ?_⟩, fun b o e s => kp b o e fun z => ?_⟩
  · by_cases c : j = i
    · subst c
      have hx' : (A.leases.set j ls)[j]? = some x := hx
      rw [List.getElem?_set_self (g.lt hi)] at hx'
      cases hx'
      rw [hq] at h3
      rw [Option.some.inj h3]
      exact hp
    · have hx' : (A.leases.set i ls)[j]? = some x := hx
      rw [List.getElem?_set_ne fun z => c z.symm] at hx'
      obtain ⟨dq, oq, e1, e2⟩ := hP.2.2.2 j q x hq hx'
      have nq : q ≠ as.getD i 0 := fun z => c (nd_ix nd hq (by rw [z]; exact h3))
      exact ⟨dq, oq, kp _ _ e1 nq, kp.lst hp0 e2⟩
  · subst z
    rw [hp0] at e
    cases e
    exact s List.mem_cons_self
section
variable {P : Program} {w : World} {K : PySem.W.Frag} {mg : Str → Option Value} {base : Heap} {a : Ad}
theorem LenderAt.at {H : Hp} {d : Addr} {as : List Addr} {A : Sd22.Abs} (h : LenderAt a H d as A) (g : Good A) {i : Nat} (hi : i < A.net.count) : as[i]? = some (as.getD i 0) ∧ PlaceAt a H (as.getD i 0) ((A.net.first : Int) + i) (A.at_ i) := by
  obtain ⟨t, nd, dx, n, l, h1, h2, hP⟩ := h
  exact hP.at (g.lt hi)
theorem pure_placeAt (T : Txt P w K mg base a) (vs : List V) (H : Hp) (Q : VK) (E : XK) (h : sp_placeAt K P w a vs H Q E) : t_placeAt K P w a { nx := fun _ H' => Q .non H', rt := Q } (start ["self", "address"] vs) H := by
  obtain ⟨d, as, A, x, rfl, hL, g, k⟩ := h
  obtain ⟨t, nd, dx, n, l, h1, h2, hP⟩ := id hL
  have S0 : ∀ H, Ev (tVar 0) (start ["self", "address"] [V.ref d, oi x]) H (.ref d) := fun H => ev_var rfl
  have S1 : ∀ H, Ev (tVar 1) (start ["self", "address"] [V.ref d, oi x]) H (oi x) := fun H => ev_var rfl
  cases x with
  | none =>
    refine q_when (b := true) (et_is (et_or (b := true) (et_test (ev_isN (S1 _))) fun hh => absurd hh (by decide)) (by rw [Bool.or_true])) (fun _ H1 e1 => ?_) (fun hb => Bool.noConfusion hb)
    exact k H1 e1
  | some x =>
    have S1' : ∀ H, Ev (tVar 1) (start ["self", "address"] [V.ref d, oi (some x)]) H (.int (x : Int)) := S1
    obtain ⟨dn, hn⟩ := id h2
    have epl : A.place x = if A.net.first ≤ x ∧ x < A.net.first + A.net.count then some (x - A.net.first) else none := rfl
    refine q_when (b := !(decide (A.net.first ≤ x ∧ x < A.net.first + A.net.count))) (et_is (et_or (et_test (ev_isN (S1' _))) fun _ => et_not (et_B (ev_meth (ef_Lender_net T (S0 _) h1) hn netF_m_lends (ea_cons (S1' _) ea_nil) (spv_lends h2)))) (by
      rw [show decide (V.int (x : Int) = V.non) = false from decide_eq_false (fun z => by cases z), Bool.false_or])) (fun hb H1 e1 => ?_) (fun hb H1 e1 => ?_)
    · rw [Bool.not_eq_true', decide_eq_false_iff_not] at hb
      have z := k H1 e1
      rw [show (some x).bind A.place = none from epl.trans (if_neg hb)] at z
      exact z
    · rw [Bool.not_eq_false', decide_eq_true_eq] at hb
      have eb : (some x).bind A.place = some (x - A.net.first) := epl.trans (if_pos hb)
      rw [eb] at k
      have hi : x - A.net.first < A.net.count := by omega
      obtain ⟨z1, z2⟩ := hP.at (g.lt hi)
      refine s_ret (v := .ref (as.getD (x - A.net.first) 0)) (ev_ixL (l := l) (i := x - A.net.first) (ef_Lender_places T (S0 _) (e1 _ _ h1)) (SqL.of (e1 _ _ hP.1)) (ev_is (ev_I (g := fun i j => .int (i - j)) (S1' _) (ef_Net_first T (ef_Lender_net T (S0 _) (e1 _ _ h1)) (e1 _ _ hn))) ?_) ?_) fun H2 e2 => k H2 (e1.trans e2)
      · show V.int ((x : Int) - (A.net.first : Int)) = _
        refine congrArg V.int ?_
        omega
      · rw [List.getElem?_map, z1]
        rfl
theorem atIx_none {as : List Addr} {o : Option Nat} : decide (atIx as o = V.non) = !(o.isSome) := by
  cases o with
  | none => rfl
  | some i => exact decide_eq_false fun z => by cases z
theorem pure_ownAt (T : Txt P w K mg base a) (vs : List V) (H : Hp) (Q : VK) (E : XK) (h : sp_ownAt K P w a vs H Q E) : t_ownAt K P w a { nx := fun _ H' => Q .non H', rt := Q } (start ["self", "address", "who", "place"] vs) H := by
  obtain ⟨d, as, A, x, o, who, rfl, hL, g, ho, k⟩ := h
  obtain ⟨t, nd, dx, n, l, h1, h2, hP⟩ := id hL
  refine q_asg (ev_meth (p := d) (ev_var rfl) h1 lenderF_m_place_at (ea_cons (x := oi x) (ev_var rfl) ea_nil) (spv_placeAt hL g)) fun H1 e1 => ?_
  show tSeq _ _ _ [some (V.ref d), some (oi x), some (V.ref o), some (atIx as (x.bind A.place))] H1
  cases ex : x.bind A.place with
  | none =>
    rw [ex] at k
    refine q_when (b := true) (et_is (et_or (b := true) (et_test (ev_isN (x := .non) (ev_var rfl))) fun hh => absurd hh (by decide)) (by rw [Bool.or_true])) (fun _ H2 e2 => ?_) (fun hb => Bool.noConfusion hb)
    exact k H2 (e1.trans e2)
  | some i =>
    rw [ex] at k
    obtain ⟨y, _, ey⟩ := Option.bind_eq_some_iff.mp ex
    have hi := (place_some ey).1
    obtain ⟨z1, z2⟩ := hL.at g hi
    have z2' := z2.ex e1
    obtain ⟨dp, op, hp1, hp2⟩ := id z2'
    have S3 : ∀ H, Ev (tVar 3) [some (V.ref d), some (oi x), some (V.ref o), some (V.ref (as.getD i 0))] H (.ref (as.getD i 0)) := fun H => ev_var rfl
    show tSeq _ _ _ [some (V.ref d), some (oi x), some (V.ref o), some (V.ref (as.getD i 0))] H1
    refine q_when (b := !((A.at_ i).who == who)) (et_is (et_or (et_test (ev_isN (S3 _))) fun _ => et_not (et_B (ev_meth (S3 _) hp1 placeF_m_is_own_of (ea_cons (x := .ref o) (ev_var rfl) ea_nil) (spv_ownOf z2' (e1 _ _ ho))))) (by
      rw [show decide (V.ref (as.getD i 0) = V.non) = false from decide_eq_false (fun z => by cases z), Bool.false_or])) (fun hb H2 e2 => ?_) (fun hb H2 e2 => ?_)
    · rw [Bool.not_eq_true'] at hb
      have z := k H2 (e1.trans e2)
      rw [Option.filter_some, if_neg (by rw [hb]; exact Bool.false_ne_true)] at z
      exact z
    · rw [Bool.not_eq_false'] at hb
      rw [Option.filter_some, if_pos hb] at k
      exact s_ret (S3 _) fun H3 e3 => k H3 ((e1.trans e2).trans e3)
theorem pure_deny (T : Txt P w K mg base a) (vs : List V) (H : Hp) (Q : VK) (E : XK) (h : sp_deny K P w a vs H Q E) : t_deny K P w a { nx := fun _ H' => Q .non H', rt := Q } (start ["self", "message"] vs) H := by
  obtain ⟨d, as, A, m, p, rfl, hL, g, hM, ok, k⟩ := h
  obtain ⟨t, nd, dx, n, l, h1, h2, hP⟩ := id hL
  have e : saidL (Sd22.refuse A p).2 = ansB A.net p 6 0 := said_is A p 6 0 false (fun _ => rfl) rfl
  rw [e] at k
  refine s_retG (eg_call (ea_cons (ef_Lender_net T (ev_var rfl) h1) (ea_cons (x := .ref m) (ev_var rfl) (ea_cons (x := .int ((6 : Nat) : Int)) ev_c (ea_cons (x := .int ((0 : Nat) : Int)) ev_c ea_nil)))) (spg_reply h2 g.net hM ok (by show 0 < 4294967296; decide))) fun q H1 e1 hq => k H1 q hq e1
/-- the call place.turn(..) -/
theorem do_turn {D : Ends} {σ : L2.St} {H : Hp} {d : Addr} {as : List Addr} {A : Sd22.Abs} {i st t : Nat} {o : Addr} {who : Sd22.Bytes} {to : TE} {ta : TA} (hL : LenderAt a H d as A) (g : Good A) (hi : i < A.net.count) (ho : H o = some (.lst (iv who))) (h1 : Ev to σ H (.ref (as.getD i 0)))
    (h2 : EvA ta σ H [.int (st : Int), .int (t : Int), .ref o]) (k : ∀ H1, LenderAt a H1 d as (A.set i ⟨st, t, who⟩) → FrX LT H H1 → H1 o = some (.lst (iv who)) → D.nx σ H1) : tDrop (tMeth a.cPlace "turn" (sp_turn K P w a) [] E0 to ta) D σ H := by
  obtain ⟨z1, z2⟩ := hL.at g hi
  obtain ⟨dp, op, hp1, hp2⟩ := id z2
  refine h1 H (Ex.refl _) _ fun H1 e1 => ⟨_, dp, _, rfl, e1 _ _ hp1, placeF_m_turn, h2 H1 e1 _ fun H2 e2 => ?_⟩
  have e12 := e1.trans e2
  refine ⟨_, _, _, st, t, o, who, rfl, z2.ex e12, e12 _ _ ho, fun H3 hp kp => ?_⟩
  obtain ⟨y1, y2⟩ := (hL.ex e12).turned g hi kp hp
  exact k H3 y1 (FrX.trans (Ex.frx e12) y2) (kp.lst (e12 _ _ hp1) (e12 _ _ ho))
theorem first_small {A : Sd22.Abs} (g : Good A) {i : Nat} (hi : i < A.net.count) : W32 (A.net.first + i) ∧ A.net.first + i ≠ 0 := by
  have z := g.net.last
  have z2 := g.net.first0
  unfold W32
  exact ⟨by omega, by omega⟩
theorem pure_lend (T : Txt P w K mg base a) (vs : List V) (H : Hp) (Q : VK) (E : XK) (h : sp_lend K P w a vs H Q E) : t_lend K P w a { nx := fun _ H' => Q .non H', rt := Q } (start ["self", "place", "message"] vs) H := by
  obtain ⟨d, as, A, i, m, p, rfl, hi, hL, g, hM, ok, k⟩ := h
  obtain ⟨t, nd, dx, n, l, h1, ⟨dn, hn⟩, hP⟩ := id hL
  obtain ⟨dm, ln, lf, lm, lw, v, hm1, _, _, _, _, hw⟩ := id hM
  obtain ⟨hs1, hs2⟩ := first_small g hi
  have S0 : ∀ H, Ev (tVar 0) (start ["self", "place", "message"] [V.ref d, V.ref (as.getD i 0), V.ref m]) H (.ref d) := fun H => ev_var rfl
  have S1 : ∀ H, Ev (tVar 1) (start ["self", "place", "message"] [V.ref d, V.ref (as.getD i 0), V.ref m]) H (.ref (as.getD i 0)) := fun H => ev_var rfl
  have S2 : ∀ H, Ev (tVar 2) (start ["self", "place", "message"] [V.ref d, V.ref (as.getD i 0), V.ref m]) H (.ref m) := fun H => ev_var rfl
  have e : saidL (Sd22.lend A p i).2 = ansB A.net p 5 (A.net.first + i) := said_is (A.set i ⟨2, A.now + A.net.time, p.who⟩) p 5 (A.net.first + i) true (fun z => by cases z) (decide_eq_true hs2).symm
  rw [e] at k
  refine do_turn (st := 2) (t := A.now + A.net.time) hL g hi hw (S1 _) (ea_cons ev_c (ea_cons (ev_I (g := fun i j => .int (i + j)) (ef_Lender_now T (S0 _) h1) (ef_Net_how_long T (ef_Lender_net T (S0 _) h1) hn)) (ea_cons (ef_Message_who T (S2 _) hm1) ea_nil))) fun H1 hL1 f1 _ => ?_
  have g1 : Good (A.set i ⟨2, A.now + A.net.time, p.who⟩) → True := fun _ => trivial
  obtain ⟨t', nd', dx', n', l', h1', h2', hP'⟩ := id hL1
  have z2 : PlaceAt a H1 (as.getD i 0) ((A.net.first : Int) + i) ⟨2, A.now + A.net.time, p.who⟩ := by
    have z := hP'.2.2.2 i (as.getD i 0) ⟨2, A.now + A.net.time, p.who⟩ (hL.at g hi).1 (List.getElem?_set_self (g.lt hi))
    exact z
  obtain ⟨dp, op, hp1, hp2⟩ := z2
  have hM1 := hM.fr f1 num_LT
  refine s_retG (eg_call (ea_cons (ef_Lender_net T (S0 _) h1') (ea_cons (S2 _) (ea_cons (x := .int ((5 : Nat) : Int)) ev_c (ea_cons (x := .int ((A.net.first + i : Nat) : Int)) (ev_is (ef_Place_address T (S1 _) hp1) rfl) ea_nil)))) (spg_reply h2' g.net hM1 ok hs1)) fun q H2 e2 hq => k H2 q hq (hL1.ex e2) (FrX.trans f1 (Ex.frx e2))
end
end Lp
namespace Lp
open PySem PySem.Spec PyProof.Rows L2 Evl
section
variable {P : Program} {w : World} {K : PySem.W.Frag} {mg : Str → Option Value} {base : Heap} {a : Ad} {σ : L2.St} {H : Hp} {D : Ends} {sp : Sp} {t : TA} {vs : List V} {E : XK} {ta : TE} {p C dx : Addr} {fs : List (Str × V)} {m : Str}
theorem s_retCall (ha : EvA t σ H vs) (k : ∀ H1, Ex H H1 → sp (vs ++ []) H1 D.rt E) : tRet (tCall sp [] E t) D σ H := ha H (Ex.refl _) _ fun H1 e1 => k H1 e1
theorem s_retMeth (h : Ev ta σ H (.ref p)) (o : H p = some (.ins C dx fs)) (l : fs.lookup m = none) (ha : EvA t σ H vs) (k : ∀ H1, Ex H H1 → sp (.ref p :: (vs ++ [])) H1 D.rt E) : tRet (tMeth C m sp [] E ta t) D σ H :=
  h H (Ex.refl _) _ fun H1 e1 => ⟨p, dx, fs, rfl, e1 _ _ o, l, ha H1 e1 _ fun H2 e2 => k H2 (e1.trans e2)⟩
theorem s_asgMeth {i : Nat} (h : Ev ta σ H (.ref p)) (o : H p = some (.ins C dx fs)) (l : fs.lookup m = none) (ha : EvA t σ H vs) (k : ∀ H1, Ex H H1 → sp (.ref p :: (vs ++ [])) H1 (fun v H2 => D.nx (σ.set i (some v)) H2) E) : tAsg (tMeth C m sp [] E ta t) (gName i) D σ H :=
  h H (Ex.refl _) _ fun H1 e1 => ⟨p, dx, fs, rfl, e1 _ _ o, l, ha H1 e1 _ fun H2 e2 => k H2 (e1.trans e2)⟩
theorem s_dropMeth (h : Ev ta σ H (.ref p)) (o : H p = some (.ins C dx fs)) (l : fs.lookup m = none) (ha : EvA t σ H vs) (k : ∀ H1, Ex H H1 → sp (.ref p :: (vs ++ [])) H1 (fun _ H2 => D.nx σ H2) E) : tDrop (tMeth C m sp [] E ta t) D σ H :=
  h H (Ex.refl _) _ fun H1 e1 => ⟨p, dx, fs, rfl, e1 _ _ o, l, ha H1 e1 _ fun H2 e2 => k H2 (e1.trans e2)⟩
end
theorem LenderAt.ext {a : Ad} {H H' : Hp} {d : Addr} {as : List Addr} {A : Sd22.Abs} (h : LenderAt a H d as A) (e : LamX.ExtN H H') (hT : TabAt a H') : LenderAt a H' d as A := by
  obtain ⟨t, nd, dx, n, l, h1, ⟨dn, h2⟩, h3, h4, h5, h6⟩ := h
  exact ⟨hT, nd, dx, n, l, e _ _ h1 (fun ps z => by cases z), ⟨dn, e _ _ h2 (fun ps z => by cases z)⟩, e _ _ h3 (fun ps z => by cases z), h4, h5, fun j q x hq hx => by
    obtain ⟨dq, oq, e1, e2⟩ := h6 j q x hq hx
    exact ⟨dq, oq, e _ _ e1 (fun ps z => by cases z), e _ _ e2 (fun ps z => by cases z)⟩⟩
theorem ext_frx {T : List Str} {H H' : Hp} (e : LamX.ExtN H H') : FrX T H H' := fun b o h s => e b o h fun ps z => by
  subst z
  exact s
/-! ### requests in plain words -/
theorem h1_is {A : Sd22.Abs} {p : Sd22.Packet} (h : p.kind = 1) : Sd22.handle A p = match A.choose p.who p.wanted with
    | none => (A, none)
    | some i => (if (A.at_ i).state = 2 ∧ A.now < (A.at_ i).until_ then A else A.set i ⟨1, A.now + 60, p.who⟩, Sd22.say (if (A.at_ i).state = 2 ∧ A.now < (A.at_ i).until_ then A else A.set i ⟨1, A.now + 60, p.who⟩) p 2 (A.net.first + i) true) := by
  unfold Sd22.handle
  dsimp only
  rw [if_pos h]
  rfl
theorem h3_other {A : Sd22.Abs} {p : Sd22.Packet} {s : Nat} (h : p.kind = 3) (hs : p.server = some s) (hn : s ≠ A.net.server) : Sd22.handle A p = ({ A with leases := A.leases.map fun l => if l.state = 1 ∧ l.who = p.who then { l with state := 0, until_ := A.now } else l }, none) := by
  unfold Sd22.handle
  dsimp only
  rw [if_neg (by rw [h]; decide), if_pos h, hs]
  dsimp only
  rw [if_pos hn]
theorem h3_offered {A : Sd22.Abs} {p : Sd22.Packet} (h : p.kind = 3) (hs : p.server = some A.net.server) : Sd22.handle A p = match p.wanted with
    | none => (A, none)
    | some x => if p.client ≠ 0 then (A, none) else match A.place x with
      | none => Sd22.refuse A p
      | some i => if A.holds i p.who = true then Sd22.lend A p i else Sd22.refuse A p := by
  unfold Sd22.handle
  dsimp only
  rw [if_neg (by rw [h]; decide), if_pos h, hs]
  dsimp only
  rw [if_neg fun z => z rfl]
  rfl
theorem h3_known {A : Sd22.Abs} {p : Sd22.Packet} {x : Nat} (h : p.kind = 3) (hs : p.server = none) (hw : p.wanted = some x) : Sd22.handle A p = if p.client ≠ 0 then (A, none)
      else if p.relay = 0 ∧ Sd22.sameNet A x = false then Sd22.refuse A p
      else match A.place x with
        | none => (A, none)
        | some i => if A.holds i p.who = true then Sd22.lend A p i else if (A.mine p.who).isSome = true then Sd22.refuse A p else (A, none) := by
  unfold Sd22.handle
  dsimp only
  rw [if_neg (by rw [h]; decide), if_pos h, hs, hw]
  rfl
theorem h3_again {A : Sd22.Abs} {p : Sd22.Packet} (h : p.kind = 3) (hs : p.server = none) (hw : p.wanted = none) : Sd22.handle A p = if p.client = 0 then (A, none) else match A.place p.client with
      | none => (A, none)
      | some i => if A.holds i p.who = true ∧ (A.at_ i).state = 2 then Sd22.lend A p i else Sd22.refuse A p := by
  unfold Sd22.handle
  dsimp only
  rw [if_neg (by rw [h]; decide), if_pos h, hs, hw]
  rfl
theorem h4_is {A : Sd22.Abs} {p : Sd22.Packet} (h : p.kind = 4) : Sd22.handle A p = match p.wanted.bind A.place with
    | none => (A, none)
    | some i => (if A.holds i p.who = true ∧ (A.at_ i).state ≠ 0 ∧ p.server = some A.net.server then A.set i ⟨3, A.now + 600, []⟩ else A, none) := by
  unfold Sd22.handle
  dsimp only
  rw [if_neg (by rw [h]; decide), if_neg (by rw [h]; decide), if_pos h]
  rfl
theorem h7_is {A : Sd22.Abs} {p : Sd22.Packet} (h : p.kind = 7) : Sd22.handle A p = match A.place p.client with
    | none => (A, none)
    | some i => (if A.holds i p.who = true ∧ (A.at_ i).state = 2 ∧ p.server = some A.net.server then A.set i ⟨0, A.now, p.who⟩ else A, none) := by
  unfold Sd22.handle
  dsimp only
  rw [if_neg (by rw [h]; decide), if_neg (by rw [h]; decide), if_neg (by rw [h]; decide), if_pos h]
  rfl
theorem h8_is {A : Sd22.Abs} {p : Sd22.Packet} (h : p.kind = 8) : Sd22.handle A p = if p.client = 0 then (A, none) else (A, Sd22.say A p 5 0 false) := by
  unfold Sd22.handle
  dsimp only
  rw [if_neg (by rw [h]; decide), if_neg (by rw [h]; decide), if_neg (by rw [h]; decide), if_neg (by rw [h]; decide), if_pos h]
theorem h0_is {A : Sd22.Abs} {p : Sd22.Packet} (h1 : p.kind ≠ 1) (h3 : p.kind ≠ 3) (h4 : p.kind ≠ 4) (h7 : p.kind ≠ 7) (h8 : p.kind ≠ 8) : Sd22.handle A p = (A, none) := by
  unfold Sd22.handle
  dsimp only
  rw [if_neg h1, if_neg h3, if_neg h4, if_neg h7, if_neg h8]
theorem holds_is {A : Sd22.Abs} (g : Good A) {i : Nat} (hi : i < A.net.count) {who : Sd22.Bytes} (hw : who ≠ []) : A.holds i who = ((A.at_ i).who == who) := g.own hi hw
/-! ### what stays right, packet by packet -/
theorem good_lend {A : Sd22.Abs} {p : Sd22.Packet} (g : Good A) (ok : MsgOk p) {i : Nat} (hi : i < A.net.count) (hh : A.holds i p.who = true) : Good (Sd22.lend A p i).1 := by
  rw [holds_is g hi ok.who] at hh
  exact good_set g hi (fun z => by cases z) (Nat.le_of_ble_eq_true rfl) ok.whoLen fun j x hx e _ => g.alone hi hx ok.who (eq_of_beq hh) e
theorem choose_lt {A : Sd22.Abs} {p : Sd22.Packet} (g : Good A) (ok : MsgOk p) {i : Nat} (e : A.choose p.who p.wanted = some i) : i < A.net.count := by
  rw [choose_is g ok.who] at e
  cases eo : ownIx A.leases p.who with
  | some j =>
    rw [eo] at e
    cases e
    rw [← g.len]
    exact (ownIx_some eo).1
  | none =>
    rw [eo] at e
    dsimp only at e
    cases ew : (p.wanted.bind A.place).filter fun i => A.free i with
    | some j =>
      rw [ew] at e
      cases e
      obtain ⟨z1, z2⟩ := Option.filter_eq_some_iff.mp ew
      obtain ⟨y, _, ey⟩ := Option.bind_eq_some_iff.mp z1
      exact (place_some ey).1
    | none =>
      rw [ew] at e
      dsimp only at e
      rw [← g.len]
      unfold oldIx at e
      dsimp only at e
      generalize eix : (List.range A.leases.length).filter (fun i => freeL A.now (A.leases.getD i Sd22.none_)) = ix at e
      have hix : ∀ i ∈ ix, i < A.leases.length := fun i hi => by
        rw [← eix] at hi
        exact List.mem_range.mp (List.mem_filter.mp hi).1
      cases ef : ix.find? fun i => (A.leases.getD i Sd22.none_).who == [] with
      | some j =>
        rw [ef] at e
        cases e
        exact hix _ (List.mem_of_find?_eq_some ef)
      | none =>
        rw [ef] at e
        dsimp only at e
        by_cases c : ix.length = 0
        · rw [List.length_eq_zero_iff.mp c] at e
          cases e
        · obtain ⟨q1, q2⟩ := arg_fold (fun i => (A.leases.getD i Sd22.none_).until_) ix (ix.length - 1) (by omega)
          rw [List.take_of_length_le (by omega)] at q1
          have e3 := Eq.trans q1.symm e
          cases e3
          refine hix _ ?_
          have hq : argBest (btI (ix.map fun i => (((A.leases.getD i Sd22.none_).until_ : Nat) : Int))) (ix.length - 1) < ix.length := by omega
          rw [List.getD_eq_getElem?_getD, List.getElem?_eq_getElem hq]
          exact List.getElem_mem hq
theorem good_handle {A : Sd22.Abs} {p : Sd22.Packet} (g : Good A) (ok : MsgOk p) : Good (Sd22.handle A p).1 := by
  by_cases c1 : p.kind = 1
  · rw [h1_is c1]
    cases e : A.choose p.who p.wanted with
    | none => exact g
    | some i =>
      dsimp only
      split
      · exact g
      · have hc := choose_lt g ok e
        rw [choose_is g ok.who] at e
        cases eo : ownIx A.leases p.who with
        | some j =>
          rw [eo] at e
          cases e
          exact good_set g hc (fun z => by cases z) (Nat.le_of_ble_eq_true rfl) ok.whoLen fun k x hx e _ => g.alone hc hx ok.who (ownIx_some eo).2 e
        | none =>
          have no := ownIx_none eo
          exact good_set g hc (fun z => by cases z) (Nat.le_of_ble_eq_true rfl) ok.whoLen fun k x hx e _ => absurd e (no x (List.mem_of_getElem? hx))
  by_cases c3 : p.kind = 3
  · cases es : p.server with
    | some s =>
      by_cases cs : s = A.net.server
      · subst cs
        rw [h3_offered c3 es]
        cases p.wanted with
        | none => exact g
        | some x =>
          dsimp only
          split
          · exact g
          · cases ep : A.place x with
            | none => exact g
            | some i =>
              dsimp only
              split
              · rename_i hh
                exact good_lend g ok (place_some ep).1 hh
              · exact g
      · rw [h3_other c3 es cs]
        have f : ∀ l ∈ A.leases, ∃ l' ∈ A.leases, (if l.state = 1 ∧ l.who = p.who then ({ l with state := 0, until_ := A.now } : Sd22.Lease) else l).who = l'.who ∧ l' = l := fun l hl => ⟨l, hl, by split <;> rfl, rfl⟩
        have wh : ∀ l : Sd22.Lease, (if l.state = 1 ∧ l.who = p.who then ({ l with state := 0, until_ := A.now } : Sd22.Lease) else l).who = l.who := fun l => by split <;> rfl
        refine ⟨g.net, by show (A.leases.map _).length = _; rw [List.length_map]; exact g.len, fun x hx e => ?_, fun x hx => ?_, fun x hx => ?_, fun j k x y hx hy e hn => ?_⟩
        · obtain ⟨l, hl, rfl⟩ := List.mem_map.mp hx
          rw [wh]
          split at e
          · cases e
          · exact g.refused l hl e
        · obtain ⟨l, hl, rfl⟩ := List.mem_map.mp hx
          split
          · exact Nat.zero_le _
          · exact g.state l hl
        · obtain ⟨l, hl, rfl⟩ := List.mem_map.mp hx
          rw [wh]
          exact g.wlen l hl
        · have hx' : (A.leases.map _)[j]? = some x := hx
          have hy' : (A.leases.map _)[k]? = some y := hy
          rw [List.getElem?_map] at hx' hy'
          obtain ⟨l1, h1, rfl⟩ := Option.map_eq_some_iff.mp hx'
          obtain ⟨l2, h2, rfl⟩ := Option.map_eq_some_iff.mp hy'
          rw [wh, wh] at e
          rw [wh] at hn
          exact g.one j k l1 l2 h1 h2 e hn
    | none =>
      cases ew : p.wanted with
      | some x =>
        rw [h3_known c3 es ew]
        split
        · exact g
        · split
          · exact g
          · cases ep : A.place x with
            | none => exact g
            | some i =>
              dsimp only
              split
              · rename_i hh
                exact good_lend g ok (place_some ep).1 hh
              · split
                · exact g
                · exact g
      | none =>
        rw [h3_again c3 es ew]
        split
        · exact g
        · cases ep : A.place p.client with
          | none => exact g
          | some i =>
            dsimp only
            split
            · rename_i hh
              exact good_lend g ok (place_some ep).1 hh.1
            · exact g
  by_cases c4 : p.kind = 4
  · rw [h4_is c4]
    cases ew : p.wanted.bind A.place with
    | none => exact g
    | some i =>
      obtain ⟨y, _, ey⟩ := Option.bind_eq_some_iff.mp ew
      dsimp only
      split
      · exact good_set g (place_some ey).1 (fun _ => rfl) (Nat.le_refl _) (Nat.zero_le _) fun j x hx e hn => absurd rfl hn
      · exact g
  by_cases c7 : p.kind = 7
  · rw [h7_is c7]
    cases ep : A.place p.client with
    | none => exact g
    | some i =>
      dsimp only
      split
      · rename_i hh
        have hi := (place_some ep).1
        have h1 := hh.1
        rw [holds_is g hi ok.who] at h1
        exact good_set g hi (fun z => by cases z) (Nat.zero_le _) ok.whoLen fun j x hx e _ => g.alone hi hx ok.who (eq_of_beq h1) e
      · exact g
  by_cases c8 : p.kind = 8
  · rw [h8_is c8]
    split
    · exact g
    · exact g
  rw [h0_is c1 c3 c4 c7 c8]
  exact g
end Lp
namespace Lp
open PySem PySem.Spec PyProof.Rows L2 Evl
section
variable {P : Program} {w : World} {K : PySem.W.Frag} {mg : Str → Option Value} {base : Heap} {a : Ad}
theorem ref_not {p : Addr} : decide (V.ref p = V.non) = false := decide_eq_false fun z => by cases z
theorem int_not {n : Int} : decide (V.int n = V.non) = false := decide_eq_false fun z => by cases z
theorem oi_not {o : Option Nat} : decide (oi o = V.non) = !(o.isSome) := by
  cases o with
  | none => rfl
  | some n => exact int_not
theorem pure_choose (T : Txt P w K mg base a) (vs : List V) (H : Hp) (Q : VK) (E : XK) (h : sp_choose K P w a vs H Q E) : t_choose K P w a { nx := fun _ H' => Q .non H', rt := Q } (start ["self", "message", "own", "wanted"] vs) H := by
  obtain ⟨d, as, A, m, p, rfl, hL, g, hM, ok, k⟩ := h
  obtain ⟨t, nd, dx, n, l, h1, h2, hP⟩ := id hL
  obtain ⟨dm, ln, lf, lm, lw, v, hm1, _, _, _, _, hw⟩ := id hM
  rw [choose_is g ok.who] at k
  have S0 : ∀ x y H, Ev (tVar 0) [some (V.ref d), some (V.ref m), x, y] H (.ref d) := fun x y H => ev_var rfl
  have S1 : ∀ x y H, Ev (tVar 1) [some (V.ref d), some (V.ref m), x, y] H (.ref m) := fun x y H => ev_var rfl
  refine q_asg (ev_call (ea_cons (ef_Lender_places T (S0 none none _) h1) (ea_cons (ef_Message_who T (S1 none none _) hm1) ea_nil)) (spv_ownAmong hP hw)) fun H1 e1 => ?_
  show tSeq _ _ _ [some (V.ref d), some (V.ref m), some (atIx as (ownIx A.leases p.who)), none] H1
  cases eo : ownIx A.leases p.who with
  | some i =>
    rw [eo] at k
    refine q_when (b := true) (et_test (ev_notN (x := .ref (as.getD i 0)) (ev_var rfl))) (fun _ H2 e2 => ?_) (fun hb => Bool.noConfusion hb)
    exact s_ret (v := .ref (as.getD i 0)) (ev_var rfl) fun H3 e3 => k H3 (LamX.ExtN.of ((e1.trans e2).trans e3)) (hL.ex ((e1.trans e2).trans e3))
  | none =>
    rw [eo] at k
    refine q_when (b := false) (et_test (ev_notN (x := .non) (ev_var rfl))) (fun hb => Bool.noConfusion hb) (fun _ H2 e2 => ?_)
    have e12 := e1.trans e2
    refine q_asg (ev_meth (S0 _ _ _) (e12 _ _ h1) lenderF_m_place_at (ea_cons (ef_Message_wanted T (S1 _ _ _) (e12 _ _ hm1)) ea_nil) (spv_placeAt (hL.ex e12) g)) fun H3 e3 => ?_
    have e13 := e12.trans e3
    show tSeq _ _ _ [some (V.ref d), some (V.ref m), some V.non, some (atIx as (p.wanted.bind A.place))] H3
    have go : ∀ {y H4}, Ex H H4 → (p.wanted.bind A.place).filter (fun i => A.free i) = none → tRet (tCall (sp_oldest K P w a) [] E0 (tCons (tFld K (tVar 0) "places") (tCons (tFld K (tVar 0) "now") tNil))) { nx := fun _ H' => Q .non H', rt := Q } [some (V.ref d), some (V.ref m), some V.non, y] H4 := fun {y H4} e4 ef => by
      refine s_retCall (ea_cons (ef_Lender_places T (S0 _ _ _) (e4 _ _ h1)) (ea_cons (ef_Lender_now T (S0 _ _ _) (e4 _ _ h1)) ea_nil)) fun H5 e5 => ?_
      have e45 := e4.trans e5
      refine ⟨l, as, A.net.first, A.leases, A.now, rfl, hP.ex e45, t.ex e45, fun H6 e6 hT => ?_⟩
      rw [ef] at k
      exact k H6 ((LamX.ExtN.of e45).trans e6) ((hL.ex e45).ext e6 hT)
    cases ew : p.wanted.bind A.place with
    | none =>
      refine q_when (b := false) (et_is (et_and (b := false) (et_test (ev_notN (x := .non) (ev_var rfl))) fun hh => absurd hh (by decide)) (by rw [Bool.and_false])) (fun hb => Bool.noConfusion hb) (fun _ H4 e4 => ?_)
      exact go (e13.trans e4) (by rw [ew]; rfl)
    | some i =>
      obtain ⟨y, _, ey⟩ := Option.bind_eq_some_iff.mp ew
      have hi := (place_some ey).1
      obtain ⟨z1, z2⟩ := (hL.ex e13).at g hi
      obtain ⟨dp, op, hp1, hp2⟩ := id z2
      have S3 : ∀ H, Ev (tVar 3) [some (V.ref d), some (V.ref m), some V.non, some (V.ref (as.getD i 0))] H (.ref (as.getD i 0)) := fun H => ev_var rfl
      show tSeq _ _ _ [some (V.ref d), some (V.ref m), some V.non, some (V.ref (as.getD i 0))] H3
      refine q_when (b := A.free i) (et_is (et_and (et_test (ev_notN (S3 _))) fun _ => et_B (ev_meth (S3 _) hp1 placeF_m_is_free_at (ea_cons (ef_Lender_now T (S0 _ _ _) (e13 _ _ h1)) ea_nil) (spv_freeAt z2))) (by rw [ref_not]; rfl)) (fun hb H4 e4 => ?_) (fun hb H4 e4 => ?_)
      · rw [ew, Option.filter_some, if_pos hb] at k
        exact s_ret (S3 _) fun H5 e5 => k H5 (LamX.ExtN.of ((e13.trans e4).trans e5)) (hL.ex ((e13.trans e4).trans e5))
      · exact go (e13.trans e4) (by rw [ew, Option.filter_some, if_neg (by rw [hb]; exact Bool.false_ne_true)])
theorem zero_said : iv (saidL none) = [V.int 0] := rfl
/-- return [0], nothing having changed -/
theorem ret_zero {σ : L2.St} {H0 H : Hp} {d : Addr} {as : List Addr} {A A' : Sd22.Abs} {s : Sd22.Said} {Q : VK} (hL : LenderAt a H d as A') (f : FrX LT H0 H) (es : s = none) (eA : A' = A)
    (k : ∀ H' q, H' q = some (.lst (iv (saidL s))) → LenderAt a H' d as A → FrX LT H0 H' → Q (.ref q) H') : tRet (tLst (tCons (tC (.int 0)) tNil)) { nx := fun _ H' => Q .non H', rt := Q } σ H := by
  subst es eA
  exact s_retG (xs := [V.int 0]) (eg_new (el_sm (ea_cons ev_c ea_nil) rfl)) fun q H1 e1 hq => k H1 q hq (hL.ex e1) (f.trans (Ex.frx e1))
theorem pure_discover (T : Txt P w K mg base a) (vs : List V) (H : Hp) (Q : VK) (E : XK) (h : sp_discover K P w a vs H Q E) : t_discover K P w a { nx := fun _ H' => Q .non H', rt := Q } (start ["self", "message", "place"] vs) H := by
  obtain ⟨d, as, A, m, p, rfl, hL, g, hM, ok, hk, k⟩ := h
  obtain ⟨t, nd, dx, n, l, h1, h2, hP⟩ := id hL
  rw [h1_is hk] at k
  refine s_asgMeth (D := { nx := _, rt := Q }) (p := d) (ev_var rfl) h1 lenderF_m_choose (ea_cons (x := .ref m) (ev_var rfl) ea_nil) fun H1 e1 => ?_
  refine ⟨d, as, A, m, p, rfl, hL.ex e1, g, hM.ex e1, ok, fun H2 e2 hL2 => ?_⟩
  have f2 : FrX LT H H2 := (Ex.frx e1).trans (ext_frx e2)
  have hM2 := hM.fr f2 num_LT
  obtain ⟨t2, nd2, dx2, n2, l2, h12, h22, hP2⟩ := id hL2
  obtain ⟨dm, ln, lf, lm, lw, v, hm1, _, _, _, _, hw⟩ := id hM2
  show tSeq _ _ _ [some (V.ref d), some (V.ref m), some (atIx as (A.choose p.who p.wanted))] H2
  cases ec : A.choose p.who p.wanted with
  | none =>
    rw [ec] at k
    refine q_when (b := true) (et_test (ev_isN (x := .non) (ev_var rfl))) (fun _ H3 e3 => ?_) (fun hb => Bool.noConfusion hb)
    exact ret_zero (hL2.ex e3) (f2.trans (Ex.frx e3)) rfl rfl k
  | some i =>
    rw [ec] at k
    have hi : i < A.net.count := choose_lt g ok ec
    have S0 : ∀ H, Ev (tVar 0) [some (V.ref d), some (V.ref m), some (V.ref (as.getD i 0))] H (.ref d) := fun H => ev_var rfl
    have S1 : ∀ H, Ev (tVar 1) [some (V.ref d), some (V.ref m), some (V.ref (as.getD i 0))] H (.ref m) := fun H => ev_var rfl
    have S2 : ∀ H, Ev (tVar 2) [some (V.ref d), some (V.ref m), some (V.ref (as.getD i 0))] H (.ref (as.getD i 0)) := fun H => ev_var rfl
    show tSeq _ _ _ [some (V.ref d), some (V.ref m), some (V.ref (as.getD i 0))] H2
    refine q_when (et_test (ev_isN (S2 _))) (fun hb => absurd hb (by rw [ref_not]; exact Bool.false_ne_true)) (fun _ H3 e3 => ?_)
    have hL3 := hL2.ex e3
    obtain ⟨z1, z2⟩ := hL3.at g hi
    obtain ⟨dp, op, hp1, hp2⟩ := id z2
    obtain ⟨hs1, hs2⟩ := first_small g hi
    -- the answer, whatever has become of the lender
    have fin : ∀ (A' : Sd22.Abs) H4, A'.net = A.net → LenderAt a H4 d as A' → (∃ ls, PlaceAt a H4 (as.getD i 0) ((A.net.first : Int) + i) ls) → FrX LT H H4 → A' = (if (A.at_ i).state = 2 ∧ A.now < (A.at_ i).until_ then A else A.set i ⟨1, A.now + 60, p.who⟩) →
        tRet (tCall (sp_reply K P w a) [] E0 (tCons (tFld K (tVar 0) "net") (tCons (tVar 1) (tCons (tC (.int 2)) (tCons (tFld K (tVar 2) "address") tNil))))) { nx := fun _ H' => Q .non H', rt := Q } [some (V.ref d), some (V.ref m), some (V.ref (as.getD i 0))] H4 := by
      intro A' H4 en hL4 ⟨ls, dq, oq, hq1, hq2⟩ f4 eA
      obtain ⟨t4, nd4, dx4, n4, l4, h14, h24, hP4⟩ := id hL4
      have es : saidL (Sd22.say A' p 2 (A.net.first + i) true) = ansB A.net p 2 (A.net.first + i) := by
        rw [said_is A' p 2 (A.net.first + i) true (fun z => by cases z) (decide_eq_true hs2).symm, en]
      rw [en] at h24
      refine s_retG (eg_call (ea_cons (ef_Lender_net T (S0 _) h14) (ea_cons (S1 _) (ea_cons (x := .int ((2 : Nat) : Int)) ev_c (ea_cons (x := .int ((A.net.first + i : Nat) : Int)) (ev_is (ef_Place_address T (S2 _) hq1) rfl) ea_nil)))) (spg_reply h24 g.net (hM.fr f4 num_LT) ok hs1)) fun q H5 e5 hq => ?_
      have hL5 := hL4.ex e5
      refine k H5 q ?_ ?_ (f4.trans (Ex.frx e5))
      · show H5 q = some (.lst (iv (saidL (Sd22.say (if _ ∧ _ then _ else _) p 2 (A.net.first + i) true))))
        rw [← eA, es]
        exact hq
      · show LenderAt a H5 d as (if _ ∧ _ then _ else _)
        rw [← eA]
        exact hL5
    refine q_when (b := !(decide ((A.at_ i).state = 2 ∧ A.now < (A.at_ i).until_))) (et_is (et_or (et_test (ev_ne (ef_Place_state T (S2 _) hp1) ev_c rfl)) fun _ => et_B (ev_meth (S2 _) hp1 placeF_m_is_free_at (ea_cons (ef_Lender_now T (S0 _) (e3 _ _ h12)) ea_nil) (spv_freeAt z2))) ?_) (fun hb H4 e4 => ?_) (fun hb H4 e4 => ?_)
    · rw [show (V.int 2) = V.int ((2 : Nat) : Int) from rfl, int_eq_nat]
      unfold freeL
      rw [Bool.eq_iff_iff, Bool.or_eq_true, Bool.not_eq_true', Bool.not_eq_true', Bool.or_eq_true, beq_eq_false_iff_ne, beq_iff_eq, decide_eq_true_eq, decide_eq_false_iff_not]
      omega
    · rw [Bool.not_eq_true', decide_eq_false_iff_not] at hb
      have hL4 := hL3.ex e4
      obtain ⟨t4, nd4, dx4, n4, l4, h14, h24, hP4⟩ := id hL4
      have e24 := e3.trans e4
      refine do_turn (D := { nx := _, rt := Q }) (st := 1) (t := A.now + 60) hL4 g hi (e24 _ _ hw) (S2 _) (ea_cons ev_c (ea_cons (ev_I (g := fun i j => .int (i + j)) (ef_Lender_now T (S0 _) h14) ev_c) (ea_cons (ef_Message_who T (S1 _) (e24 _ _ hm1)) ea_nil))) fun H5 hL5 f5 _ => ?_
      refine fin (A.set i ⟨1, A.now + 60, p.who⟩) H5 rfl hL5 ?_ ((f2.trans (Ex.frx e24)).trans f5) (by rw [if_neg hb])
      obtain ⟨t5, nd5, dx5, n5, l5, h15, h25, hP5⟩ := id hL5
      exact ⟨⟨1, A.now + 60, p.who⟩, hP5.2.2.2 i (as.getD i 0) ⟨1, A.now + 60, p.who⟩ z1 (List.getElem?_set_self (g.lt hi))⟩
    · rw [Bool.not_eq_false', decide_eq_true_eq] at hb
      exact fin A H4 rfl (hL3.ex e4) ⟨_, z2.ex e4⟩ (f2.trans (Ex.frx (e3.trans e4))) (by rw [if_pos hb])
end
end Lp
namespace Lp
open PySem PySem.Spec PyProof.Rows L2 Evl
section
variable {P : Program} {w : World} {K : PySem.W.Frag} {mg : Str → Option Value} {base : Heap} {a : Ad}
theorem do_turnG {D : Ends} {σ : L2.St} {H : Hp} {d : Addr} {as : List Addr} {A : Sd22.Abs} {i st t : Nat} {who : Sd22.Bytes} {to t1 t2 t3 : TE} (hL : LenderAt a H d as A) (g : Good A) (hi : i < A.net.count) (h1 : Ev to σ H (.ref (as.getD i 0)))
    (h2 : Ev t1 σ H (.int (st : Int))) (h3 : Ev t2 σ H (.int (t : Int))) (h4 : EG t3 σ H (iv who)) (k : ∀ H1, LenderAt a H1 d as (A.set i ⟨st, t, who⟩) → FrX LT H H1 → D.nx σ H1) : tDrop (tMeth a.cPlace "turn" (sp_turn K P w a) [] E0 to (tCons t1 (tCons t2 (tCons t3 tNil)))) D σ H := by
  obtain ⟨z1, z2⟩ := hL.at g hi
  obtain ⟨dp, op, hp1, hp2⟩ := id z2
  refine h1 H (Ex.refl _) _ fun H1 e1 => ⟨_, dp, _, rfl, e1 _ _ hp1, placeF_m_turn, h2 H1 e1 _ fun H2 e2 => h3 H2 (e1.trans e2) _ fun H3 e3 => h4 H3 ((e1.trans e2).trans e3) _ fun o H4 e4 ho => ?_⟩
  have e14 := ((e1.trans e2).trans e3).trans e4
  refine ⟨_, _, _, st, t, o, who, rfl, z2.ex e14, ho, fun H5 hp kp => ?_⟩
  obtain ⟨y1, y2⟩ := (hL.ex e14).turned g hi kp hp
  exact k H5 y1 (FrX.trans (Ex.frx e14) y2)
theorem pure_takeBack (T : Txt P w K mg base a) (vs : List V) (H : Hp) (Q : VK) (E : XK) (h : sp_takeBack K P w a vs H Q E) : t_takeBack K P w a { nx := fun _ H' => Q .non H', rt := Q } (start ["self", "who", "place"] vs) H := by
  obtain ⟨d, as, A, o, who, rfl, hL, g, ho, hw, k⟩ := h
  obtain ⟨t, nd, dx, n, l, h1, h2, hP⟩ := id hL
  rw [back_is g hw] at k
  have S0 : ∀ y H, Ev (tVar 0) [some (V.ref d), some (V.ref o), y] H (.ref d) := fun y H => ev_var rfl
  have S1 : ∀ y H, Ev (tVar 1) [some (V.ref d), some (V.ref o), y] H (.ref o) := fun y H => ev_var rfl
  refine q_asg (ev_call (ea_cons (ef_Lender_places T (S0 none _) h1) (ea_cons (S1 none _) ea_nil)) (spv_ownAmong hP ho)) fun H1 e1 => ?_
  show tIfS _ _ _ _ [some (V.ref d), some (V.ref o), some (atIx as (ownIx A.leases who))] H1
  cases eo : ownIx A.leases who with
  | none =>
    rw [eo] at k
    refine s_when (b := false) (et_is (et_and (b := false) (et_test (ev_notN (x := .non) (ev_var rfl))) fun hh => absurd hh (by decide)) (by rw [Bool.and_false])) (fun hb => Bool.noConfusion hb) (fun _ H2 e2 => ?_)
    exact k H2 (hL.ex (e1.trans e2)) (Ex.frx (e1.trans e2))
  | some i =>
    rw [eo] at k
    dsimp only at k
    have hi : i < A.net.count := by rw [← g.len]; exact (ownIx_some eo).1
    obtain ⟨z1, z2⟩ := (hL.ex e1).at g hi
    obtain ⟨dp, op, hp1, hp2⟩ := id z2
    have S2 : ∀ H, Ev (tVar 2) [some (V.ref d), some (V.ref o), some (V.ref (as.getD i 0))] H (.ref (as.getD i 0)) := fun H => ev_var rfl
    show tIfS _ _ _ _ [some (V.ref d), some (V.ref o), some (V.ref (as.getD i 0))] H1
    refine s_when (b := (A.at_ i).state == 1) (et_is (et_and (et_test (ev_notN (S2 _))) fun _ => et_test (ev_eq (ef_Place_state T (S2 _) hp1) ev_c rfl)) (by rw [ref_not, show (V.int 1) = V.int ((1 : Nat) : Int) from rfl, int_eq_nat]; rfl)) (fun hb H2 e2 => ?_) (fun hb H2 e2 => ?_)
    · rw [beq_iff_eq] at hb
      have e12 := e1.trans e2
      refine do_turn (st := 0) (t := A.now) (hL.ex e12) g hi (e12 _ _ ho) (S2 _) (ea_cons ev_c (ea_cons (ef_Lender_now T (S0 _ _) (e12 _ _ h1)) (ea_cons (S1 _ _) ea_nil))) fun H3 hL3 f3 _ => ?_
      refine k H3 ?_ ((Ex.frx e12).trans f3)
      have e5 : (A.leases.getD i Sd22.none_).state = 1 := hb
      rw [if_pos e5]
      exact hL3
    · rw [beq_eq_false_iff_ne] at hb
      have e5 : ¬ (A.leases.getD i Sd22.none_).state = 1 := hb
      rw [if_neg e5] at k
      exact k H2 (hL.ex (e1.trans e2)) (Ex.frx (e1.trans e2))
theorem oi_ne {o : Option Nat} {n : Nat} : (!decide (oi o = V.int (n : Int))) = !(o == some n) := by rw [oi_eq]
theorem scal_oi {o : Option Nat} {n : Int} : scal (oi o) (.int n) = true := by cases o <;> rfl
theorem own_ix {A : Sd22.Abs} (g : Good A) {x : Option Nat} {who : Sd22.Bytes} (hw : who ≠ []) : ((x.bind A.place).filter fun i => (A.at_ i).who == who) = (x.bind A.place).filter fun i => A.holds i who := by
  cases e : x.bind A.place with
  | none => rfl
  | some i =>
    obtain ⟨y, _, ey⟩ := Option.bind_eq_some_iff.mp e
    rw [Option.filter_some, Option.filter_some, holds_is g (place_some ey).1 hw]
theorem pure_decline (T : Txt P w K mg base a) (vs : List V) (H : Hp) (Q : VK) (E : XK) (h : sp_decline K P w a vs H Q E) : t_decline K P w a { nx := fun _ H' => Q .non H', rt := Q } (start ["self", "message", "place"] vs) H := by
  obtain ⟨d, as, A, m, p, rfl, hL, g, hM, ok, hk, k⟩ := h
  obtain ⟨t, nd, dx, n, l, h1, ⟨dn, hn⟩, hP⟩ := id hL
  obtain ⟨dm, ln, lf, lm, lw, v, hm1, _, _, _, _, hw⟩ := id hM
  have S0 : ∀ y H, Ev (tVar 0) [some (V.ref d), some (V.ref m), y] H (.ref d) := fun y H => ev_var rfl
  have S1 : ∀ y H, Ev (tVar 1) [some (V.ref d), some (V.ref m), y] H (.ref m) := fun y H => ev_var rfl
  refine q_asg (ev_meth (S0 none _) h1 lenderF_m_own_at (ea_cons (ef_Message_wanted T (S1 none _) hm1) (ea_cons (ef_Message_who T (S1 none _) hm1) ea_nil)) (spv_ownAt hL g hw)) fun H1 e1 => ?_
  rw [own_ix g ok.who]
  show tSeq _ _ _ [some (V.ref d), some (V.ref m), some (atIx as ((p.wanted.bind A.place).filter fun i => A.holds i p.who))] H1
  have nothing : ∀ {H2}, Ex H H2 → (Sd22.handle A p).1 = A → Q .non H2 := fun {H2} e2 eA => by
    refine k H2 ?_ (Ex.frx e2)
    rw [eA]
    exact hL.ex e2
  cases ew : p.wanted.bind A.place with
  | none =>
    refine q_when (b := true) (et_is (et_or (b := true) (et_test (ev_isN (x := .non) (ev_var rfl))) fun hh => absurd hh (by decide)) (by rw [Bool.or_true])) (fun _ H2 e2 => ?_) (fun hb => Bool.noConfusion hb)
    exact nothing (e1.trans e2) (by rw [h4_is hk, ew])
  | some i =>
    obtain ⟨y, _, ey⟩ := Option.bind_eq_some_iff.mp ew
    have hi := (place_some ey).1
    cases eh : A.holds i p.who with
    | false =>
      have ef : ((some i).filter fun i => A.holds i p.who) = none := by rw [Option.filter_some, if_neg (by rw [eh]; exact Bool.false_ne_true)]
      rw [ef]
      refine q_when (b := true) (et_is (et_or (b := true) (et_test (ev_isN (x := .non) (ev_var rfl))) fun hh => absurd hh (by decide)) (by rw [Bool.or_true])) (fun _ H2 e2 => ?_) (fun hb => Bool.noConfusion hb)
      refine nothing (e1.trans e2) ?_
      rw [h4_is hk, ew]
      show (if A.holds i p.who = true ∧ _ then _ else _) = A
      rw [if_neg (by rw [eh]; rintro ⟨z, _⟩; cases z)]
    | true =>
      have ef : ((some i).filter fun i => A.holds i p.who) = some i := by rw [Option.filter_some, if_pos eh]
      rw [ef]
      obtain ⟨z1, z2⟩ := (hL.ex e1).at g hi
      obtain ⟨dp, op, hp1, hp2⟩ := id z2
      have S2 : ∀ H, Ev (tVar 2) [some (V.ref d), some (V.ref m), some (V.ref (as.getD i 0))] H (.ref (as.getD i 0)) := fun H => ev_var rfl
      show tSeq _ _ _ [some (V.ref d), some (V.ref m), some (V.ref (as.getD i 0))] H1
      refine q_when (b := (A.at_ i).state == 0 || !(p.server == some A.net.server)) (et_is (et_or (et_test (ev_isN (S2 _))) fun _ => et_or (et_test (ev_eq (ef_Place_state T (S2 _) hp1) ev_c rfl)) fun _ => et_test (ev_ne (ef_Message_server T (S1 _ _) (e1 _ _ hm1)) (ef_Net_server T (ef_Lender_net T (S0 _ _) (e1 _ _ h1)) (e1 _ _ hn)) scal_oi)) (by
        rw [ref_not, Bool.false_or, int0, int_eq_nat, oi_ne])) (fun hb H2 e2 => ?_) (fun hb H2 e2 => ?_)
      · refine nothing (e1.trans e2) ?_
        rw [h4_is hk, ew]
        show (if _ ∧ _ then _ else _) = A
        rw [if_neg]
        rintro ⟨_, y1, y2⟩
        rw [Bool.or_eq_true, beq_iff_eq, Bool.not_eq_true', beq_eq_false_iff_ne] at hb
        rcases hb with z | z
        · exact y1 z
        · exact z y2
      · rw [Bool.or_eq_false_iff, beq_eq_false_iff_ne, Bool.not_eq_false', beq_iff_eq] at hb
        have e12 := e1.trans e2
        refine do_turnG (st := 3) (t := A.now + 600) (who := []) (hL.ex e12) g hi (S2 _) ev_c (ev_I (g := fun i j => .int (i + j)) (ef_Lender_now T (S0 _ _) (e12 _ _ h1)) ev_c) eg_nil fun H4 hL4 f4 => ?_
        refine k H4 ?_ ((Ex.frx e12).trans f4)
        rw [h4_is hk, ew]
        show LenderAt a H4 d as (if _ ∧ _ then _ else _)
        rw [if_pos ⟨eh, hb.1, hb.2⟩]
        exact hL4
end
end Lp
namespace Lp
open PySem PySem.Spec PyProof.Rows L2 Evl
section
variable {P : Program} {w : World} {K : PySem.W.Frag} {mg : Str → Option Value} {base : Heap} {a : Ad}
theorem pure_release (T : Txt P w K mg base a) (vs : List V) (H : Hp) (Q : VK) (E : XK) (h : sp_release K P w a vs H Q E) : t_release K P w a { nx := fun _ H' => Q .non H', rt := Q } (start ["self", "message", "place"] vs) H := by
  obtain ⟨d, as, A, m, p, rfl, hL, g, hM, ok, hk, k⟩ := h
  obtain ⟨t, nd, dx, n, l, h1, ⟨dn, hn⟩, hP⟩ := id hL
  obtain ⟨dm, ln, lf, lm, lw, v, hm1, _, _, _, _, hw⟩ := id hM
  have S0 : ∀ y H, Ev (tVar 0) [some (V.ref d), some (V.ref m), y] H (.ref d) := fun y H => ev_var rfl
  have S1 : ∀ y H, Ev (tVar 1) [some (V.ref d), some (V.ref m), y] H (.ref m) := fun y H => ev_var rfl
  refine q_asg (ev_meth (S0 none _) h1 lenderF_m_own_at (ea_cons (x := oi (some p.client)) (ef_Message_client T (S1 none _) hm1) (ea_cons (ef_Message_who T (S1 none _) hm1) ea_nil)) (spv_ownAt hL g hw)) fun H1 e1 => ?_
  rw [own_ix g ok.who]
  have eb : (some p.client).bind A.place = A.place p.client := rfl
  rw [eb]
  show tSeq _ _ _ [some (V.ref d), some (V.ref m), some (atIx as ((A.place p.client).filter fun i => A.holds i p.who))] H1
  have nothing : ∀ {H2}, Ex H H2 → (Sd22.handle A p).1 = A → Q .non H2 := fun {H2} e2 eA => by
    refine k H2 ?_ (Ex.frx e2)
    rw [eA]
    exact hL.ex e2
  cases ew : A.place p.client with
  | none =>
    refine q_when (b := true) (et_is (et_or (b := true) (et_test (ev_isN (x := .non) (ev_var rfl))) fun hh => absurd hh (by decide)) (by rw [Bool.or_true])) (fun _ H2 e2 => ?_) (fun hb => Bool.noConfusion hb)
    exact nothing (e1.trans e2) (by rw [h7_is hk, ew])
  | some i =>
    have hi := (place_some ew).1
    cases eh : A.holds i p.who with
    | false =>
      have ef : ((some i).filter fun i => A.holds i p.who) = none := by rw [Option.filter_some, if_neg (by rw [eh]; exact Bool.false_ne_true)]
      rw [ef]
      refine q_when (b := true) (et_is (et_or (b := true) (et_test (ev_isN (x := .non) (ev_var rfl))) fun hh => absurd hh (by decide)) (by rw [Bool.or_true])) (fun _ H2 e2 => ?_) (fun hb => Bool.noConfusion hb)
      refine nothing (e1.trans e2) ?_
      rw [h7_is hk, ew]
      show (if A.holds i p.who = true ∧ _ then _ else _) = A
      rw [if_neg (by rw [eh]; rintro ⟨z, _⟩; cases z)]
    | true =>
      have ef : ((some i).filter fun i => A.holds i p.who) = some i := by rw [Option.filter_some, if_pos eh]
      rw [ef]
      obtain ⟨z1, z2⟩ := (hL.ex e1).at g hi
      obtain ⟨dp, op, hp1, hp2⟩ := id z2
      have S2 : ∀ H, Ev (tVar 2) [some (V.ref d), some (V.ref m), some (V.ref (as.getD i 0))] H (.ref (as.getD i 0)) := fun H => ev_var rfl
      show tSeq _ _ _ [some (V.ref d), some (V.ref m), some (V.ref (as.getD i 0))] H1
      refine q_when (b := !((A.at_ i).state == 2) || !(p.server == some A.net.server)) (et_is (et_or (et_test (ev_isN (S2 _))) fun _ => et_or (et_test (ev_ne (ef_Place_state T (S2 _) hp1) ev_c rfl)) fun _ => et_test (ev_ne (ef_Message_server T (S1 _ _) (e1 _ _ hm1)) (ef_Net_server T (ef_Lender_net T (S0 _ _) (e1 _ _ h1)) (e1 _ _ hn)) scal_oi)) (by
        rw [ref_not, Bool.false_or, show (V.int 2) = V.int ((2 : Nat) : Int) from rfl, int_eq_nat, oi_ne])) (fun hb H2 e2 => ?_) (fun hb H2 e2 => ?_)
      · refine nothing (e1.trans e2) ?_
        rw [h7_is hk, ew]
        show (if _ ∧ _ then _ else _) = A
        rw [if_neg]
        rintro ⟨_, y1, y2⟩
        rw [Bool.or_eq_true, Bool.not_eq_true', beq_eq_false_iff_ne, Bool.not_eq_true', beq_eq_false_iff_ne] at hb
        rcases hb with z | z
        · exact z y1
        · exact z y2
      · rw [Bool.or_eq_false_iff, Bool.not_eq_false', beq_iff_eq, Bool.not_eq_false', beq_iff_eq] at hb
        have e12 := e1.trans e2
        refine do_turn (st := 0) (t := A.now) (hL.ex e12) g hi (e12 _ _ hw) (S2 _) (ea_cons ev_c (ea_cons (ef_Lender_now T (S0 _ _) (e12 _ _ h1)) (ea_cons (ef_Message_who T (S1 _ _) (e12 _ _ hm1)) ea_nil))) fun H4 hL4 f4 _ => ?_
        refine k H4 ?_ ((Ex.frx e12).trans f4)
        rw [h7_is hk, ew]
        show LenderAt a H4 d as (if _ ∧ _ then _ else _)
        rw [if_pos ⟨eh, hb.1, hb.2⟩]
        exact hL4
theorem ev_neg {σ : L2.St} {H : Hp} {n : Int} : Ev (tUn rNeg (tC (.int n))) σ H (.int (-n)) := ev_un ev_c ru_neg
theorem pure_tick (T : Txt P w K mg base a) (vs : List V) (H : Hp) (Q : VK) (E : XK) (h : sp_tick K P w a vs H Q E) : t_tick K P w a { nx := fun _ H' => Q .non H', rt := Q } (start ["self", "seconds"] vs) H := by
  obtain ⟨d, as, A, s, rfl, hL, k⟩ := h
  obtain ⟨t, nd, dx, n, l, h1, h2, hP⟩ := id hL
  have S0 : ∀ H, Ev (tVar 0) (start ["self", "seconds"] [V.ref d, V.int (s : Int)]) H (.ref d) := fun H => ev_var rfl
  have S1 : ∀ H, Ev (tVar 1) (start ["self", "seconds"] [V.ref d, V.int (s : Int)]) H (.int (s : Int)) := fun H => ev_var rfl
  refine q_when (et_test (ev_I (g := fun i j => .bl (decide (i < j))) (S1 _) (ef_Lender_now T (S0 _) h1))) (fun hb H1 e1 => ?_) (fun hb H1 e1 => ?_)
  · rw [int_lt_nat, decide_eq_true_eq] at hb
    refine s_retG (xs := zv [-1]) (eg_new (el_sm (ea_cons ev_neg ea_nil) rfl)) fun q H2 e2 hq => ?_
    have z := k H2 q
    rw [if_pos hb, if_pos hb] at z
    exact z hq (hL.ex (e1.trans e2)) (Ex.frx (e1.trans e2))
  · rw [int_lt_nat, decide_eq_false_iff_not] at hb
    refine st_put (D := { nx := _, rt := Q }) (v := .int (s : Int)) (S1 _) (S0 _) (e1 _ _ h1) T.c_Lender T.n_Lender_now rfl fun H2 k2 h2' => ?_
    rw [lenderF_p_now] at h2'
    refine s_retG (σ := start ["self", "seconds"] [V.ref d, V.int (s : Int)]) (xs := zv [0]) (eg_new (el_sm (ea_cons ev_c ea_nil) rfl)) fun q H3 e3 hq => ?_
    have z := k H3 q
    rw [if_neg hb, if_neg hb] at z
    have hd1 := e1 _ _ h1
    have kx : FrX LT H1 H2 := fun b o e s => k2 b o e fun z => by
      subst z
      rw [hd1] at e
      cases e
      exact s (List.mem_cons_of_mem _ List.mem_cons_self)
    refine z hq (LenderAt.ex e3 ?_) (((Ex.frx e1).trans kx).trans (Ex.frx e3))
    have hL1 := hL.ex e1
    obtain ⟨t1, _, dx1, n1, l1, h11, ⟨dn, h21⟩, hP1⟩ := hL1
    rw [hd1] at h11
    injection h11 with h11
    injection h11 with _ e5 e6
    have en : V.ref n = V.ref n1 ∧ V.ref l = V.ref l1 := by
      injection e6 with e7 e8
      injection e7 with _ e7
      injection e8 with _ e8
      injection e8 with e9 _
      injection e9 with _ e9
      exact ⟨e7, e9⟩
    injection en.1 with en1
    injection en.2 with en2
    subst en1 en2
    refine ⟨k2.tab hd1 t1, nd, dx, n, l, h2', ⟨dn, k2 _ _ h21 (ne_of h21 hd1 (first_name (by decide +kernel)))⟩, k2.lst hd1 hP1.1, hP1.2.1, hP1.2.2.1, fun j q x hq hx => ?_⟩
    obtain ⟨dq, oq, w1, w2⟩ := hP1.2.2.2 j q x hq hx
    exact ⟨dq, oq, k2 _ _ w1 (ne_of w1 hd1 (first_name (by decide +kernel))), k2.lst hd1 w2⟩
theorem zv_iv (l : List Nat) : zv (Sd22Neutral.ints l) = iv l := by
  unfold zv iv Sd22Neutral.ints
  rw [List.map_map]
  rfl
theorem pure_look (T : Txt P w K mg base a) (vs : List V) (H : Hp) (Q : VK) (E : XK) (h : sp_look K P w a vs H Q E) : t_look K P w a { nx := fun _ H' => Q .non H', rt := Q } (start ["self", "address", "place", "seconds", "state"] vs) H := by
  obtain ⟨d, as, A, x, rfl, hL, g, k⟩ := h
  obtain ⟨t, nd, dx, n, l, h1, h2, hP⟩ := id hL
  refine q_asg (ev_meth (p := d) (ev_var rfl) h1 lenderF_m_place_at (ea_cons (x := oi (some x)) (ev_var rfl) ea_nil) (spv_placeAt hL g)) fun H1 e1 => ?_
  have eb : (some x).bind A.place = A.place x := rfl
  rw [eb]
  show tSeq _ _ _ [some (V.ref d), some (V.int (x : Int)), some (atIx as (A.place x)), none, none] H1
  have es : (Sd22.step (some A) (.look x)).2 = match A.place x with
      | none => Sd22.no (-1)
      | some i => ⟨if A.free i = true then 0 else (A.at_ i).state, (A.at_ i).who, [(A.at_ i).until_ - A.now, (A.at_ i).who.length]⟩ := by
    unfold Sd22.step
    dsimp only
    cases A.place x <;> rfl
  rw [es] at k
  cases ep : A.place x with
  | none =>
    rw [ep] at k
    refine q_when (b := true) (et_test (ev_isN (x := .non) (ev_var rfl))) (fun _ H2 e2 => ?_) (fun hb => Bool.noConfusion hb)
    exact s_retG (xs := zv [-1]) (eg_new (el_sm (ea_cons ev_neg ea_nil) rfl)) fun q H3 e3 hq => k H3 q hq ((e1.trans e2).trans e3)
  | some i =>
    rw [ep] at k
    dsimp only at k
    have hi := (place_some ep).1
    obtain ⟨z1, z2⟩ := (hL.ex e1).at g hi
    obtain ⟨dp, op, hp1, hp2⟩ := id z2
    have wl := g.wlen _ (g.mem hi)
    have S0 : ∀ y z H, Ev (tVar 0) [some (V.ref d), some (V.int (x : Int)), some (V.ref (as.getD i 0)), y, z] H (.ref d) := fun y z H => ev_var rfl
    have S2 : ∀ y z H, Ev (tVar 2) [some (V.ref d), some (V.int (x : Int)), some (V.ref (as.getD i 0)), y, z] H (.ref (as.getD i 0)) := fun y z H => ev_var rfl
    show tSeq _ _ _ [some (V.ref d), some (V.int (x : Int)), some (V.ref (as.getD i 0)), none, none] H1
    refine q_when (et_test (ev_isN (S2 _ _ _))) (fun hb => absurd hb (by rw [ref_not]; exact Bool.false_ne_true)) (fun _ H2 e2 => ?_)
    have e12 := e1.trans e2
    refine q_asg (v := .int (((A.at_ i).until_ - A.now : Nat) : Int)) (ev_is (ev_max2 (ev_I (g := fun i j => .int (i - j)) (ef_Place_till T (S2 _ _ _) (e2 _ _ hp1)) (ef_Lender_now T (S0 _ _ _) (e12 _ _ h1))) (j := 0) ev_c) ?_) fun H3 e3 => ?_
    · refine congrArg V.int ?_
      split <;> omega
    have e23 := e2.trans e3
    refine q_asg (v := .int ((A.at_ i).state : Int)) (ef_Place_state T (by exact S2 _ _ _) (e23 _ _ hp1)) fun H4 e4 => ?_
    have e24 := e23.trans e4
    show tSeq _ _ _ [some (V.ref d), some (V.int (x : Int)), some (V.ref (as.getD i 0)), some (V.int (((A.at_ i).until_ - A.now : Nat) : Int)), some (V.int ((A.at_ i).state : Int))] H4
    have fin : ∀ (s : Nat) H5, Ex H4 H5 → s = (if A.free i = true then 0 else (A.at_ i).state) → tRet (tOp rCat (tLst (tCons (tVar 4) (tCons (tVar 3) (tCons (tCB (rLenS K) (tCons (tFld K (tVar 2) "owner") tNil)) tNil)))) (tFld K (tVar 2) "owner")) { nx := fun _ H' => Q .non H', rt := Q } [some (V.ref d), some (V.int (x : Int)), some (V.ref (as.getD i 0)), some (V.int (((A.at_ i).until_ - A.now : Nat) : Int)), some (V.int (s : Int))] H5 := by
      intro s H5 e5 hs
      have e25 := e24.trans e5
      refine s_retG (xs := zv (ansL ⟨((if A.free i = true then 0 else (A.at_ i).state : Nat) : Int), (A.at_ i).who, [(A.at_ i).until_ - A.now, (A.at_ i).who.length]⟩)) (eg_is (eg_cat (eg_new (el_sm (ea_cons (x := .int (s : Int)) (ev_var rfl) (ea_cons (x := .int (((A.at_ i).until_ - A.now : Nat) : Int)) (ev_var rfl) (ea_cons (ev_lenG (eg_ref (ef_Place_owner T (S2 _ _ _) (e25 _ _ hp1)) (e25 _ _ hp2))) ea_nil))) rfl)) (eg_ref (ef_Place_owner T (S2 _ _ _) (e25 _ _ hp1)) (e25 _ _ hp2)) ?_) ?_) fun q H6 e6 hq => k H6 q ?_ ((e1.trans e25).trans e6)
      · rw [iv_len]; simp only [List.length_cons, List.length_nil]; omega
      · rw [iv_len, hs]
        unfold ansL
        rw [← zv_iv]
        rfl
      · rw [hq]
        refine congrArg (fun z => some (HO.lst (zv (ansL ⟨z, _, _⟩)))) ?_
        split <;> rfl
    refine q_when (et_B (ev_meth (S2 _ _ _) (e24 _ _ hp1) placeF_m_is_free_at (ea_cons (ef_Lender_now T (S0 _ _ _) ((e1.trans e24) _ _ h1)) ea_nil) (spv_freeAt (z2.ex e24)))) (fun hb H5 e5 => ?_) (fun hb H5 e5 => ?_)
    · have hb' : A.free i = true := hb
      refine s_asg (D := { nx := _, rt := Q }) (v := .int ((0 : Nat) : Int)) ev_c fun H6 e6 => fin 0 H6 (e5.trans e6) (by rw [if_pos hb'])
    · have hb' : ¬ A.free i = true := by
        intro z
        have z' : freeL A.now (A.at_ i) = true := z
        rw [hb] at z'
        cases z'
      exact fin _ H5 e5 (by rw [if_neg hb'])
end
end Lp
namespace Lp
open PySem PySem.Spec PyProof.Rows L2 Evl
section
variable {P : Program} {w : World} {K : PySem.W.Frag} {mg : Str → Option Value} {base : Heap} {a : Ad}
/-- return self.deny(message) -/
theorem ret_deny {σ : L2.St} {H0 H : Hp} {d m : Addr} {as : List Addr} {A : Sd22.Abs} {p : Sd22.Packet} {Q : VK} {x : Sd22.Abs × Sd22.Said} (hL : LenderAt a H d as A) (g : Good A) (hM : MsgAt a H m p) (ok : MsgOk p) (f : FrX LT H0 H) (S0 : ∀ H, Ev (tVar 0) σ H (.ref d)) (S1 : ∀ H, Ev (tVar 1) σ H (.ref m)) (ex : x = Sd22.refuse A p)
    (k : ∀ H' q, H' q = some (.lst (iv (saidL x.2))) → LenderAt a H' d as x.1 → FrX LT H0 H' → Q (.ref q) H') : tRet (tMeth a.cLender "deny" (sp_deny K P w a) [] E0 (tVar 0) (tCons (tVar 1) tNil)) { nx := fun _ H' => Q .non H', rt := Q } σ H := by
  obtain ⟨t, nd, dx, n, l, h1, h2, hP⟩ := id hL
  subst ex
  exact s_retMeth (S0 _) h1 lenderF_m_deny (ea_cons (S1 _) ea_nil) fun H1 e1 => ⟨d, as, A, m, p, rfl, hL.ex e1, g, hM.ex e1, ok, fun H2 q hq e2 => k H2 q hq (hL.ex (e1.trans e2)) (f.trans (Ex.frx (e1.trans e2)))⟩
/-- return self.lend(place, message) -/
theorem ret_lend {σ : L2.St} {H0 H : Hp} {d m : Addr} {as : List Addr} {A : Sd22.Abs} {p : Sd22.Packet} {i : Nat} {Q : VK} {x : Sd22.Abs × Sd22.Said} (hL : LenderAt a H d as A) (g : Good A) (hi : i < A.net.count) (hM : MsgAt a H m p) (ok : MsgOk p) (f : FrX LT H0 H) (S0 : ∀ H, Ev (tVar 0) σ H (.ref d)) (S1 : ∀ H, Ev (tVar 1) σ H (.ref m)) (S2 : ∀ H, Ev (tVar 2) σ H (.ref (as.getD i 0))) (ex : x = Sd22.lend A p i)
    (k : ∀ H' q, H' q = some (.lst (iv (saidL x.2))) → LenderAt a H' d as x.1 → FrX LT H0 H' → Q (.ref q) H') : tRet (tMeth a.cLender "lend" (sp_lend K P w a) [] E0 (tVar 0) (tCons (tVar 2) (tCons (tVar 1) tNil))) { nx := fun _ H' => Q .non H', rt := Q } σ H := by
  obtain ⟨t, nd, dx, n, l, h1, h2, hP⟩ := id hL
  subst ex
  exact s_retMeth (S0 _) h1 lenderF_m_lend (ea_cons (S2 _) (ea_cons (S1 _) ea_nil)) fun H1 e1 => ⟨d, as, A, i, m, p, rfl, hi, hL.ex e1, g, hM.ex e1, ok, fun H2 q hq hL2 f2 => k H2 q hq hL2 (f.trans ((Ex.frx e1).trans f2))⟩
theorem pure_reqOffered (T : Txt P w K mg base a) (vs : List V) (H : Hp) (Q : VK) (E : XK) (h : sp_reqOffered K P w a vs H Q E) : t_reqOffered K P w a { nx := fun _ H' => Q .non H', rt := Q } (start ["self", "message", "place"] vs) H := by
  obtain ⟨d, as, A, m, p, rfl, hL, g, hM, ok, hk, hs, k⟩ := h
  obtain ⟨t, nd, dx, n, l, h1, h2, hP⟩ := id hL
  obtain ⟨dm, ln, lf, lm, lw, v, hm1, _, _, _, _, hw⟩ := id hM
  have S0 : ∀ y H, Ev (tVar 0) [some (V.ref d), some (V.ref m), y] H (.ref d) := fun y H => ev_var rfl
  have S1 : ∀ y H, Ev (tVar 1) [some (V.ref d), some (V.ref m), y] H (.ref m) := fun y H => ev_var rfl
  have hH := h3_offered hk hs
  refine q_when (b := !(p.wanted.isSome) || !(p.client == 0)) (et_is (et_or (et_test (ev_isN (ef_Message_wanted T (S1 none _) hm1))) fun _ => et_test (ev_ne (ef_Message_client T (S1 none _) hm1) ev_c rfl)) (by rw [oi_not, int0, int_eq_nat])) (fun hb H1 e1 => ?_) (fun hb H1 e1 => ?_)
  · refine ret_zero (hL.ex e1) (Ex.frx e1) ?_ ?_ k
    · rw [hH]
      cases ew : p.wanted with
      | none => rfl
      | some x =>
        rw [ew] at hb
        have hc : p.client ≠ 0 := by simpa using hb
        show (if p.client ≠ 0 then (A, (none : Sd22.Said)) else _).2 = none
        rw [if_pos hc]
    · rw [hH]
      cases ew : p.wanted with
      | none => rfl
      | some x =>
        rw [ew] at hb
        have hc : p.client ≠ 0 := by simpa using hb
        show A = (if p.client ≠ 0 then (A, (none : Sd22.Said)) else _).1
        rw [if_pos hc]
  rw [Bool.or_eq_false_iff, Bool.not_eq_false', Bool.not_eq_false', beq_iff_eq] at hb
  obtain ⟨x, ew⟩ := Option.isSome_iff_exists.mp hb.1
  rw [ew] at hH
  dsimp only at hH
  rw [if_neg fun z => z hb.2] at hH
  refine q_asg (ev_meth (S0 none _) (e1 _ _ h1) lenderF_m_own_at (ea_cons (ef_Message_wanted T (S1 none _) (e1 _ _ hm1)) (ea_cons (ef_Message_who T (S1 none _) (e1 _ _ hm1)) ea_nil)) (spv_ownAt (hL.ex e1) g (e1 _ _ hw))) fun H2 e2 => ?_
  have e12 := e1.trans e2
  rw [own_ix g ok.who, ew]
  have eb : (some x).bind A.place = A.place x := rfl
  rw [eb]
  show tSeq _ _ _ [some (V.ref d), some (V.ref m), some (atIx as ((A.place x).filter fun i => A.holds i p.who))] H2
  cases ef : (A.place x).filter fun i => A.holds i p.who with
  | none =>
    refine q_when (b := true) (et_test (ev_isN (x := .non) (ev_var rfl))) (fun _ H3 e3 => ?_) (fun hb => Bool.noConfusion hb)
    refine ret_deny (hL.ex (e12.trans e3)) g (hM.ex (e12.trans e3)) ok (Ex.frx (e12.trans e3)) (S0 _) (S1 _) ?_ k
    rw [hH]
    cases ep : A.place x with
    | none => rfl
    | some i =>
      rw [ep, Option.filter_some] at ef
      show (if A.holds i p.who = true then _ else _) = _
      by_cases c : A.holds i p.who = true
      · rw [if_pos c] at ef; cases ef
      · rw [if_neg c]
  | some i =>
    obtain ⟨ep, hh⟩ := Option.filter_eq_some_iff.mp ef
    have S2 : ∀ H, Ev (tVar 2) [some (V.ref d), some (V.ref m), some (V.ref (as.getD i 0))] H (.ref (as.getD i 0)) := fun H => ev_var rfl
    show tSeq _ _ _ [some (V.ref d), some (V.ref m), some (V.ref (as.getD i 0))] H2
    refine q_when (et_test (ev_isN (S2 _))) (fun hb => absurd hb (by rw [ref_not]; exact Bool.false_ne_true)) (fun _ H3 e3 => ?_)
    refine ret_lend (hL.ex (e12.trans e3)) g (place_some ep).1 (hM.ex (e12.trans e3)) ok (Ex.frx (e12.trans e3)) (S0 _) (S1 _) S2 ?_ k
    rw [hH, ep]
    show (if A.holds i p.who = true then _ else _) = _
    rw [if_pos hh]
theorem pure_reqKnown (T : Txt P w K mg base a) (vs : List V) (H : Hp) (Q : VK) (E : XK) (h : sp_reqKnown K P w a vs H Q E) : t_reqKnown K P w a { nx := fun _ H' => Q .non H', rt := Q } (start ["self", "message", "place"] vs) H := by
  obtain ⟨d, as, A, m, p, rfl, hL, g, hM, ok, hk, hs, ⟨x, ew⟩, k⟩ := h
  obtain ⟨t, nd, dx, n, l, h1, ⟨dn, hn⟩, hP⟩ := id hL
  obtain ⟨dm, ln, lf, lm, lw, v, hm1, _, _, _, _, hw⟩ := id hM
  have S0 : ∀ y H, Ev (tVar 0) [some (V.ref d), some (V.ref m), y] H (.ref d) := fun y H => ev_var rfl
  have S1 : ∀ y H, Ev (tVar 1) [some (V.ref d), some (V.ref m), y] H (.ref m) := fun y H => ev_var rfl
  have hH := h3_known (A := A) hk hs ew
  have wantE : ∀ {y H'}, Ex H H' → Ev (tFld K (tVar 1) "wanted") [some (V.ref d), some (V.ref m), y] H' (.int (x : Int)) := fun {y H'} e => by
    have z := ef_Message_wanted T (S1 y H') (e _ _ hm1)
    rw [ew] at z
    exact z
  refine q_when (et_test (ev_ne (ef_Message_client T (S1 none _) hm1) ev_c rfl)) (fun hb H1 e1 => ?_) (fun hb H1 e1 => ?_)
  · rw [int0, int_eq_nat, Bool.not_eq_true', beq_eq_false_iff_ne] at hb
    rw [if_pos hb] at hH
    exact ret_zero (hL.ex e1) (Ex.frx e1) (by rw [hH]) (by rw [hH]) k
  rw [int0, int_eq_nat, Bool.not_eq_false', beq_iff_eq] at hb
  rw [if_neg fun z => z hb] at hH
  have sn : Sd22.sameNet A x = (Nat.land x A.net.mask == Nat.land A.net.server A.net.mask) := rfl
  refine q_when (b := p.relay == 0 && !(Sd22.sameNet A x)) (et_is (et_and (et_test (ev_eq (ef_Message_relay T (S1 none _) (e1 _ _ hm1)) ev_c rfl)) fun _ => et_not (et_B (ev_meth (ef_Lender_net T (S0 none _) (e1 _ _ h1)) (e1 _ _ hn) netF_m_shares_net (ea_cons (wantE e1) ea_nil) (spv_sharesNet ⟨dn, e1 _ _ hn⟩)))) (by rw [int0, int_eq_nat, sn])) (fun hc H2 e2 => ?_) (fun hc H2 e2 => ?_)
  · rw [Bool.and_eq_true, beq_iff_eq, Bool.not_eq_true'] at hc
    rw [if_pos hc] at hH
    exact ret_deny (hL.ex (e1.trans e2)) g (hM.ex (e1.trans e2)) ok (Ex.frx (e1.trans e2)) (S0 _) (S1 _) hH k
  have hc' : ¬ (p.relay = 0 ∧ Sd22.sameNet A x = false) := by
    rintro ⟨z1, z2⟩
    rw [z1, z2] at hc
    exact absurd hc (by decide)
  rw [if_neg hc'] at hH
  have e12 := e1.trans e2
  have epl : A.place x = if A.net.first ≤ x ∧ x < A.net.first + A.net.count then some (x - A.net.first) else none := rfl
  refine q_when (et_not (et_B (ev_meth (ef_Lender_net T (S0 none _) (e12 _ _ h1)) (e12 _ _ hn) netF_m_lends (ea_cons (wantE e12) ea_nil) (spv_lends ⟨dn, e12 _ _ hn⟩)))) (fun hd H3 e3 => ?_) (fun hd H3 e3 => ?_)
  · rw [Bool.not_eq_true', decide_eq_false_iff_not] at hd
    have z : A.place x = none := epl.trans (if_neg hd)
    rw [z] at hH
    exact ret_zero (hL.ex (e12.trans e3)) (Ex.frx (e12.trans e3)) (by rw [hH]) (by rw [hH]) k
  rw [Bool.not_eq_false', decide_eq_true_eq] at hd
  have ep : A.place x = some (x - A.net.first) := epl.trans (if_pos hd)
  generalize x - A.net.first = i at ep
  rw [ep] at hH
  dsimp only at hH
  have hi := (place_some ep).1
  have e13 := e12.trans e3
  refine q_asg (ev_meth (S0 none _) (e13 _ _ h1) lenderF_m_own_at (ea_cons (x := oi (some x)) (wantE e13) (ea_cons (ef_Message_who T (S1 none _) (e13 _ _ hm1)) ea_nil)) (spv_ownAt (hL.ex e13) g (e13 _ _ hw))) fun H4 e4 => ?_
  have e14 := e13.trans e4
  rw [own_ix g ok.who]
  have eb : (some x).bind A.place = A.place x := rfl
  rw [eb, ep, Option.filter_some]
  by_cases ch : A.holds i p.who = true
  · rw [if_pos ch]
    rw [if_pos ch] at hH
    have S2 : ∀ H, Ev (tVar 2) [some (V.ref d), some (V.ref m), some (V.ref (as.getD i 0))] H (.ref (as.getD i 0)) := fun H => ev_var rfl
    show tSeq _ _ _ [some (V.ref d), some (V.ref m), some (V.ref (as.getD i 0))] H4
    refine q_when (et_test (ev_notN (S2 _))) (fun _ H5 e5 => ?_) (fun hb => absurd hb (by rw [ref_not]; decide))
    exact ret_lend (hL.ex (e14.trans e5)) g hi (hM.ex (e14.trans e5)) ok (Ex.frx (e14.trans e5)) (S0 _) (S1 _) S2 hH k
  · rw [if_neg ch]
    rw [if_neg ch, mine_is g ok.who] at hH
    show tSeq _ _ _ [some (V.ref d), some (V.ref m), some V.non] H4
    refine q_when (b := false) (et_test (ev_notN (x := .non) (ev_var rfl))) (fun hb => Bool.noConfusion hb) (fun _ H5 e5 => ?_)
    have e15 := e14.trans e5
    refine q_when (b := (ownIx A.leases p.who).isSome) (et_is (et_test (ev_notN (ev_call (ea_cons (ef_Lender_places T (S0 _ _) (e15 _ _ h1)) (ea_cons (ef_Message_who T (S1 _ _) (e15 _ _ hm1)) ea_nil)) (spv_ownAmong (hP.ex e15) (e15 _ _ hw))))) (by rw [atIx_none, Bool.not_not])) (fun hf H6 e6 => ?_) (fun hf H6 e6 => ?_)
    · rw [if_pos hf] at hH
      exact ret_deny (hL.ex (e15.trans e6)) g (hM.ex (e15.trans e6)) ok (Ex.frx (e15.trans e6)) (S0 _) (S1 _) hH k
    · rw [if_neg (by rw [hf]; exact Bool.false_ne_true)] at hH
      exact ret_zero (hL.ex (e15.trans e6)) (Ex.frx (e15.trans e6)) (by rw [hH]) (by rw [hH]) k
theorem pure_reqAgain (T : Txt P w K mg base a) (vs : List V) (H : Hp) (Q : VK) (E : XK) (h : sp_reqAgain K P w a vs H Q E) : t_reqAgain K P w a { nx := fun _ H' => Q .non H', rt := Q } (start ["self", "message", "place"] vs) H := by
  obtain ⟨d, as, A, m, p, rfl, hL, g, hM, ok, hk, hs, ew, k⟩ := h
  obtain ⟨t, nd, dx, n, l, h1, ⟨dn, hn⟩, hP⟩ := id hL
  obtain ⟨dm, ln, lf, lm, lw, v, hm1, _, _, _, _, hw⟩ := id hM
  have S0 : ∀ y H, Ev (tVar 0) [some (V.ref d), some (V.ref m), y] H (.ref d) := fun y H => ev_var rfl
  have S1 : ∀ y H, Ev (tVar 1) [some (V.ref d), some (V.ref m), y] H (.ref m) := fun y H => ev_var rfl
  have hH := h3_again (A := A) hk hs ew
  have epl : A.place p.client = if A.net.first ≤ p.client ∧ p.client < A.net.first + A.net.count then some (p.client - A.net.first) else none := rfl
  refine q_when (et_not (et_B (ev_meth (ef_Lender_net T (S0 none _) h1) hn netF_m_lends (ea_cons (ef_Message_client T (S1 none _) hm1) ea_nil) (spv_lends ⟨dn, hn⟩)))) (fun hd H1 e1 => ?_) (fun hd H1 e1 => ?_)
  · rw [Bool.not_eq_true', decide_eq_false_iff_not] at hd
    have z : A.place p.client = none := epl.trans (if_neg hd)
    have hH2 : Sd22.handle A p = (A, none) := by
      rw [hH, z]
      split <;> rfl
    exact ret_zero (hL.ex e1) (Ex.frx e1) (by rw [hH2]) (by rw [hH2]) k
  rw [Bool.not_eq_false', decide_eq_true_eq] at hd
  have f0 := g.net.first0
  rw [if_neg (by omega)] at hH
  have ep : A.place p.client = some (p.client - A.net.first) := epl.trans (if_pos hd)
  generalize p.client - A.net.first = i at ep
  rw [ep] at hH
  dsimp only at hH
  have hi := (place_some ep).1
  refine q_asg (ev_meth (S0 none _) (e1 _ _ h1) lenderF_m_own_at (ea_cons (x := oi (some p.client)) (ef_Message_client T (S1 none _) (e1 _ _ hm1)) (ea_cons (ef_Message_who T (S1 none _) (e1 _ _ hm1)) ea_nil)) (spv_ownAt (hL.ex e1) g (e1 _ _ hw))) fun H2 e2 => ?_
  have e12 := e1.trans e2
  rw [own_ix g ok.who]
  have eb : (some p.client).bind A.place = A.place p.client := rfl
  rw [eb, ep, Option.filter_some]
  by_cases ch : A.holds i p.who = true
  · rw [if_pos ch]
    have S2 : ∀ H, Ev (tVar 2) [some (V.ref d), some (V.ref m), some (V.ref (as.getD i 0))] H (.ref (as.getD i 0)) := fun H => ev_var rfl
    obtain ⟨z1, z2⟩ := (hL.ex e12).at g hi
    obtain ⟨dp, op, hp1, hp2⟩ := id z2
    show tSeq _ _ _ [some (V.ref d), some (V.ref m), some (V.ref (as.getD i 0))] H2
    refine q_when (b := !((A.at_ i).state == 2)) (et_is (et_or (et_test (ev_isN (S2 _))) fun _ => et_test (ev_ne (ef_Place_state T (S2 _) hp1) ev_c rfl)) (by rw [ref_not, Bool.false_or, show (V.int 2) = V.int ((2 : Nat) : Int) from rfl, int_eq_nat])) (fun hb H3 e3 => ?_) (fun hb H3 e3 => ?_)
    · rw [Bool.not_eq_true', beq_eq_false_iff_ne] at hb
      rw [if_neg fun z => hb z.2] at hH
      exact ret_deny (hL.ex (e12.trans e3)) g (hM.ex (e12.trans e3)) ok (Ex.frx (e12.trans e3)) (S0 _) (S1 _) hH k
    · rw [Bool.not_eq_false', beq_iff_eq] at hb
      rw [if_pos ⟨ch, hb⟩] at hH
      exact ret_lend (hL.ex (e12.trans e3)) g hi (hM.ex (e12.trans e3)) ok (Ex.frx (e12.trans e3)) (S0 _) (S1 _) S2 hH k
  · rw [if_neg ch]
    rw [if_neg fun z => ch z.1] at hH
    show tSeq _ _ _ [some (V.ref d), some (V.ref m), some V.non] H2
    refine q_when (b := true) (et_is (et_or (b := true) (et_test (ev_isN (x := .non) (ev_var rfl))) fun hh => absurd hh (by decide)) (by rw [Bool.or_true])) (fun _ H3 e3 => ?_) (fun hb => Bool.noConfusion hb)
    exact ret_deny (hL.ex (e12.trans e3)) g (hM.ex (e12.trans e3)) ok (Ex.frx (e12.trans e3)) (S0 _) (S1 _) hH k
theorem pure_request (T : Txt P w K mg base a) (vs : List V) (H : Hp) (Q : VK) (E : XK) (h : sp_request K P w a vs H Q E) : t_request K P w a { nx := fun _ H' => Q .non H', rt := Q } (start ["self", "message"] vs) H := by
  obtain ⟨d, as, A, m, p, rfl, hL, g, hM, ok, hk, k⟩ := h
  obtain ⟨t, nd, dx, n, l, h1, ⟨dn, hn⟩, hP⟩ := id hL
  obtain ⟨dm, ln, lf, lm, lw, v, hm1, _, _, _, _, hw⟩ := id hM
  have S0 : ∀ H, Ev (tVar 0) (start ["self", "message"] [V.ref d, V.ref m]) H (.ref d) := fun H => ev_var rfl
  have S1 : ∀ H, Ev (tVar 1) (start ["self", "message"] [V.ref d, V.ref m]) H (.ref m) := fun H => ev_var rfl
  refine q_when (b := !(p.server.isSome) && !(p.wanted.isSome)) (et_is (et_and (et_test (ev_isN (ef_Message_server T (S1 _) hm1))) fun _ => et_test (ev_isN (ef_Message_wanted T (S1 _) hm1))) (by rw [oi_not, oi_not])) (fun hb H1 e1 => ?_) (fun hb H1 e1 => ?_)
  · rw [Bool.and_eq_true, Bool.not_eq_true', Bool.not_eq_true', Option.isSome_eq_false_iff, Option.isNone_iff_eq_none, Option.isSome_eq_false_iff, Option.isNone_iff_eq_none] at hb
    exact s_retMeth (S0 _) (e1 _ _ h1) lenderF_m_request_again (ea_cons (S1 _) ea_nil) fun H2 e2 => ⟨d, as, A, m, p, rfl, hL.ex (e1.trans e2), g, hM.ex (e1.trans e2), ok, hk, hb.1, hb.2, fun H3 q hq hL3 f3 => k H3 q hq hL3 ((Ex.frx (e1.trans e2)).trans f3)⟩
  refine q_when (b := !(p.server.isSome)) (et_is (et_test (ev_isN (ef_Message_server T (S1 _) (e1 _ _ hm1)))) oi_not) (fun hc H2 e2 => ?_) (fun hc H2 e2 => ?_)
  · have e12 := e1.trans e2
    rw [hc, Bool.true_and, Bool.not_eq_false'] at hb
    rw [Bool.not_eq_true', Option.isSome_eq_false_iff, Option.isNone_iff_eq_none] at hc
    exact s_retMeth (S0 _) (e12 _ _ h1) lenderF_m_request_known (ea_cons (S1 _) ea_nil) fun H3 e3 => ⟨d, as, A, m, p, rfl, hL.ex (e12.trans e3), g, hM.ex (e12.trans e3), ok, hk, hc, Option.isSome_iff_exists.mp hb, fun H4 q hq hL4 f4 => k H4 q hq hL4 ((Ex.frx (e12.trans e3)).trans f4)⟩
  rw [Bool.not_eq_false'] at hc
  obtain ⟨s, es⟩ := Option.isSome_iff_exists.mp hc
  have e12 := e1.trans e2
  refine q_when (b := p.server == some A.net.server) (et_is (et_test (ev_eq (ef_Message_server T (S1 _) (e12 _ _ hm1)) (ef_Net_server T (ef_Lender_net T (S0 _) (e12 _ _ h1)) (e12 _ _ hn)) scal_oi)) oi_eq) (fun hd H3 e3 => ?_) (fun hd H3 e3 => ?_)
  · rw [beq_iff_eq] at hd
    have e13 := e12.trans e3
    exact s_retMeth (S0 _) (e13 _ _ h1) lenderF_m_request_offered (ea_cons (S1 _) ea_nil) fun H4 e4 => ⟨d, as, A, m, p, rfl, hL.ex (e13.trans e4), g, hM.ex (e13.trans e4), ok, hk, hd, fun H5 q hq hL5 f5 => k H5 q hq hL5 ((Ex.frx (e13.trans e4)).trans f5)⟩
  · rw [beq_eq_false_iff_ne, es] at hd
    have e13 := e12.trans e3
    have hn' : s ≠ A.net.server := fun z => hd (by rw [z])
    have hH := h3_other (A := A) hk es hn'
    refine s_dropMeth (D := { nx := _, rt := Q }) (S0 _) (e13 _ _ h1) lenderF_m_take_back (ea_cons (ef_Message_who T (S1 _) (e13 _ _ hm1)) ea_nil) fun H4 e4 => ⟨d, as, A, lw, p.who, rfl, hL.ex (e13.trans e4), g, (e13.trans e4) _ _ hw, ok.who, fun H5 hL5 f5 => ?_⟩
    refine ret_zero (σ := start ["self", "message"] [V.ref d, V.ref m]) hL5 ((Ex.frx (e13.trans e4)).trans f5) (by rw [hH]) (by rw [hH]) k
theorem pure_handle (T : Txt P w K mg base a) (vs : List V) (H : Hp) (Q : VK) (E : XK) (h : sp_handle K P w a vs H Q E) : t_handle K P w a { nx := fun _ H' => Q .non H', rt := Q } (start ["self", "message"] vs) H := by
  obtain ⟨d, as, A, m, p, rfl, hL, g, hM, ok, k⟩ := h
  obtain ⟨t, nd, dx, n, l, h1, h2, hP⟩ := id hL
  obtain ⟨dm, ln, lf, lm, lw, v, hm1, _, _, _, _, hw⟩ := id hM
  have S0 : ∀ H, Ev (tVar 0) (start ["self", "message"] [V.ref d, V.ref m]) H (.ref d) := fun H => ev_var rfl
  have S1 : ∀ H, Ev (tVar 1) (start ["self", "message"] [V.ref d, V.ref m]) H (.ref m) := fun H => ev_var rfl
  have kindE : ∀ {H'} (c : Nat), Ex H H' → EvT (tTest (tOp rEq (tFld K (tVar 1) "kind") (tC (.int (c : Int))))) (start ["self", "message"] [V.ref d, V.ref m]) H' (p.kind == c) := fun c e => et_is (et_test (ev_eq (ef_Message_kind T (S1 _) (e _ _ hm1)) ev_c rfl)) int_eq_nat
  refine q_when (kindE 1 (Ex.refl _)) (fun hb H1 e1 => ?_) (fun hb1 H1 e1 => ?_)
  · rw [beq_iff_eq] at hb
    exact s_retMeth (S0 _) (e1 _ _ h1) lenderF_m_discover (ea_cons (S1 _) ea_nil) fun H2 e2 => ⟨d, as, A, m, p, rfl, hL.ex (e1.trans e2), g, hM.ex (e1.trans e2), ok, hb, fun H3 q hq hL3 f3 => k H3 q hq hL3 ((Ex.frx (e1.trans e2)).trans f3)⟩
  rw [beq_eq_false_iff_ne] at hb1
  refine q_when (kindE 3 e1) (fun hb H2 e2 => ?_) (fun hb3 H2 e2 => ?_)
  · rw [beq_iff_eq] at hb
    have e12 := e1.trans e2
    exact s_retMeth (S0 _) (e12 _ _ h1) lenderF_m_request (ea_cons (S1 _) ea_nil) fun H3 e3 => ⟨d, as, A, m, p, rfl, hL.ex (e12.trans e3), g, hM.ex (e12.trans e3), ok, hb, fun H4 q hq hL4 f4 => k H4 q hq hL4 ((Ex.frx (e12.trans e3)).trans f4)⟩
  rw [beq_eq_false_iff_ne] at hb3
  have e12 := e1.trans e2
  refine q_if (kindE 4 e12) (fun hb H3 e3 => ?_) (fun hb4 H3 e3 => ?_)
  · rw [beq_iff_eq] at hb
    have e13 := e12.trans e3
    have hn : (Sd22.handle A p).2 = none := by
      rw [h4_is hb]
      cases p.wanted.bind A.place <;> rfl
    exact s_dropMeth (S0 _) (e13 _ _ h1) lenderF_m_decline (ea_cons (S1 _) ea_nil) fun H4 e4 => ⟨d, as, A, m, p, rfl, hL.ex (e13.trans e4), g, hM.ex (e13.trans e4), ok, hb, fun H5 hL5 f5 => ret_zero (σ := start ["self", "message"] [V.ref d, V.ref m]) hL5 ((Ex.frx (e13.trans e4)).trans f5) hn rfl k⟩
  rw [beq_eq_false_iff_ne] at hb4
  have e13 := e12.trans e3
  refine s_if (kindE 7 e13) (fun hb H4 e4 => ?_) (fun hb7 H4 e4 => ?_)
  · rw [beq_iff_eq] at hb
    have e14 := e13.trans e4
    have hn : (Sd22.handle A p).2 = none := by
      rw [h7_is hb]
      cases A.place p.client <;> rfl
    exact s_dropMeth (S0 _) (e14 _ _ h1) lenderF_m_release (ea_cons (S1 _) ea_nil) fun H5 e5 => ⟨d, as, A, m, p, rfl, hL.ex (e14.trans e5), g, hM.ex (e14.trans e5), ok, hb, fun H6 hL6 f6 => ret_zero (σ := start ["self", "message"] [V.ref d, V.ref m]) hL6 ((Ex.frx (e14.trans e5)).trans f6) hn rfl k⟩
  rw [beq_eq_false_iff_ne] at hb7
  have e14 := e13.trans e4
  refine s_when (b := p.kind == 8 && !(p.client == 0)) (et_is (et_and (kindE 8 e14) fun _ => et_test (ev_ne (ef_Message_client T (S1 _) (e14 _ _ hm1)) ev_c rfl)) (by rw [int0, int_eq_nat])) (fun hb H5 e5 => ?_) (fun hb8 H5 e5 => ?_)
  · rw [Bool.and_eq_true, beq_iff_eq, Bool.not_eq_true', beq_eq_false_iff_ne] at hb
    have e15 := e14.trans e5
    have hH := h8_is (A := A) hb.1
    rw [if_neg hb.2] at hH
    have e : saidL (Sd22.handle A p).2 = ansB A.net p 5 0 := by
      rw [hH]
      exact said_is A p 5 0 false (fun z => by cases z) rfl
    refine s_retG (eg_call (ea_cons (ef_Lender_net T (S0 _) (e15 _ _ h1)) (ea_cons (S1 _) (ea_cons (x := .int ((5 : Nat) : Int)) ev_c (ea_cons (x := .int ((0 : Nat) : Int)) ev_c ea_nil)))) (spg_reply (h2.ex e15) g.net (hM.ex e15) ok (by show 0 < 4294967296; decide))) fun q H6 e6 hq => k H6 q (by rw [e]; exact hq) ?_ (Ex.frx (e15.trans e6))
    rw [hH]
    exact hL.ex (e15.trans e6)
  · have e15 := e14.trans e5
    have hH : Sd22.handle A p = (A, none) := by
      by_cases c8 : p.kind = 8
      · rw [h8_is c8]
        rw [c8, beq_self_eq_true, Bool.true_and, Bool.not_eq_false', beq_iff_eq] at hb8
        rw [if_pos hb8]
      · exact h0_is hb1 hb3 hb4 hb7 c8
    exact ret_zero (σ := start ["self", "message"] [V.ref d, V.ref m]) (hL.ex e15) (Ex.frx e15) (by rw [hH]) (by rw [hH]) k
end
end Lp
namespace Lp
open PySem PySem.Spec PyProof.Rows L2 Evl
section
variable {P : Program} {w : World} {K : PySem.W.Frag} {mg : Str → Option Value} {base : Heap} {a : Ad}
/-- what is left of self.f = y once y is there -/
def PutK (K : PySem.W.Frag) (to : TE) (f : Str) (y : V) (D : Ends) (σ : L2.St) (H : Hp) : Prop := to σ H fun x H2 => ∃ a C dx fs, x = .ref a ∧ H2 a = some (.ins C dx fs) ∧ Cls K C ∧ NoAttr K C f ∧ fs.length < 1000 ∧
  D.nx σ (upd H2 a (.ins C dx (putF f y fs)))
theorem st_raw {σ : L2.St} {H : Hp} {D : Ends} {to tv : TE} {f : Str} (h : tv σ H fun y H1 => PutK K to f y D σ H1) : sFld K to tv f D σ H := h
theorem put_k {σ : L2.St} {H : Hp} {D : Ends} {to : TE} {C dx p : Addr} {fs : List (Str × V)} {f : Str} {y : V} (ho : Ev to σ H (.ref p)) (hp : H p = some (.ins C dx fs)) (c : Cls K C) (n : NoAttr K C f) (hl : Nat.ble fs.length 20 = true)
    (k : ∀ H1, Kept p H H1 → H1 p = some (.ins C dx (putF f y fs)) → D.nx σ H1) : PutK K to f y D σ H :=
  ho H (Ex.refl _) _ fun H2 e2 => ⟨p, C, dx, fs, rfl, e2 _ _ hp, c, n, Nat.lt_of_le_of_lt (Nat.le_of_ble_eq_true hl) (by decide), k _ (fun b o e hb => by rw [upd_ne hb]; exact e2 _ _ e) upd_same⟩
/-- self.f = C(..) -/
theorem st_make {σ : L2.St} {H : Hp} {D : Ends} {to : TE} {CC : Addr} {f : Str} {sp : Sp} {E : XK} {t : TA} {vs : List V} (ha : EvA t σ H vs)
    (k : ∀ H1 x dy, Ex H H1 → H1 x = none → H1 dy = none → dy ≠ x → sp (.ref x :: (vs ++ [])) (upd (upd H1 dy (.own x)) x (.ins CC dy [])) (fun v H2 => v = .non ∧ PutK K to f (.ref x) D σ H2) E) : sFld K to (tMake CC sp [] E t) f D σ H :=
  ha H (Ex.refl _) _ fun H1 e1 x dx h1 h2 h3 => k H1 x dx e1 h1 h2 h3
/-! ### the lender is made -/
/-- behind i turns: the places so far, none of whose lists is the list at D -/
def Made (a : Ad) (H1 : Hp) (D : Addr) (f i : Nat) (H : Hp) : Prop := Ex H1 H ∧ ∃ as : List Addr, as.length = i ∧ as.Nodup ∧ H D = some (.lst (as.map V.ref)) ∧
  ∀ (j : Nat) (q : Addr), as[j]? = some q → ∃ dx o, H q = some (.ins a.cPlace dx (placeF (.int ((f : Int) + j)) (.int 0) (.int 0) (.ref o))) ∧ H o = some (.lst []) ∧ o ≠ D
theorem made_turn {H1 H : Hp} {D : Addr} {f i : Nat} (hD : H1 D = none) (M : Made a H1 D f i H) (hi : i < 256) {x dx : Addr} {H4 : Hp} (hx : H x = none) (hdx : H dx = none) (hn : PlaceNew a (upd (upd H dx (.own x)) x (.ins a.cPlace dx [])) H4 x ((f : Int) + i)) (kp : Kept x (upd (upd H dx (.own x)) x (.ins a.cPlace dx [])) H4) :
    ∃ acc, H4 D = some (.lst acc) ∧ acc.length < sizeLine ∧ Made a H1 D f (i + 1) (upd H4 D (.lst (acc ++ [V.ref x]))) := by
  obtain ⟨e, as, hl, nd, hDl, hp⟩ := M
  have e0 : Ex H (upd (upd H dx (.own x)) x (.ins a.cPlace dx [])) := made_ex hx hdx
  have e4 : Ex H H4 := fun b o h => kp b o (e0 b o h) (ne_of_none h hx)
  obtain ⟨dy, o, o0, h1, h2⟩ := hn
  have Dx : D ≠ x := ne_of_none hDl hx
  have oD : o ≠ D := by
    rintro rfl
    rw [e0 _ _ hDl] at o0
    cases o0
  refine ⟨as.map V.ref, e4 _ _ hDl, by rw [List.length_map, hl]; exact Nat.lt_of_lt_of_le hi (by decide), fun b u h => ?_, as ++ [x], by rw [List.length_append, hl]; rfl, ?_, by rw [upd_same, List.map_append]; rfl, fun j q hq => ?_⟩
  · rw [upd_ne (ne_of_none h hD)]
    exact e4 _ _ (e _ _ h)
  · rw [List.nodup_append]
    refine ⟨nd, by simp, fun y hy z hz => ?_⟩
    obtain rfl : z = x := by simpa using hz
    rintro rfl
    obtain ⟨j, hj⟩ := List.getElem?_of_mem hy
    obtain ⟨_, _, q1, _⟩ := hp j _ hj
    rw [hx] at q1
    cases q1
  · by_cases c : j < as.length
    · rw [List.getElem?_append_left c] at hq
      obtain ⟨dq, oq, q1, q2, q3⟩ := hp j q hq
      have qD : q ≠ D := ne_of q1 hDl (fun z => by cases z)
      exact ⟨dq, oq, by rw [upd_ne qD]; exact e4 _ _ q1, by rw [upd_ne q3]; exact e4 _ _ q2, q3⟩
    · have z := (List.getElem?_eq_some_iff.mp hq).1
      rw [List.length_append] at z
      have ej : j = as.length := by simp only [List.length_cons, List.length_nil] at z; omega
      subst ej
      rw [List.getElem?_append_right (Nat.le_refl _), Nat.sub_self] at hq
      cases hq
      rw [hl]
      exact ⟨dy, o, by rw [upd_ne (fun z => Dx z.symm)]; exact h1, by rw [upd_ne oD]; exact h2, oD⟩
theorem pure_lInit (T : Txt P w K mg base a) (vs : List V) (H : Hp) (Q : VK) (E : XK) (h : sp_lInit K P w a vs H Q E) : t_lInit K P w a { nx := fun _ H' => Q .non H', rt := Q } (start ["self", "net", "address"] vs) H := by
  obtain ⟨d, dx, n, N, rfl, hd, hN, ok, hT, k⟩ := h
  have S0 : ∀ H, Ev (tVar 0) (start ["self", "net", "address"] [V.ref d, V.ref n]) H (.ref d) := fun H => ev_var rfl
  have S1 : ∀ H, Ev (tVar 1) (start ["self", "net", "address"] [V.ref d, V.ref n]) H (.ref n) := fun H => ev_var rfl
  have c1 := ok.count1
  have c2 := ok.count2
  have cl := ok.last
  obtain ⟨dn, hn⟩ := id hN
  have ne1 : n ≠ d := ne_of hn hd (fun z => by injection z with _ _ z; cases z)
  refine st_put (v := .ref n) (S1 _) (S0 _) hd T.c_Lender T.n_Lender_net rfl fun H1 k1 h1 => ?_
  rw [lenderF_b0] at h1
  refine st_put (v := .int 0) ev_c (S0 _) h1 T.c_Lender T.n_Lender_now rfl fun H2 k2 h2 => ?_
  rw [lenderF_b1] at h2
  have k12 := k1.trans k2
  have hn2 := k12 _ _ hn ne1
  have hT2 := k12.tab hd hT
  -- the list of places
  dsimp only
  refine st_raw ?_
  unfold tLc iRng2
  refine (ea_cons (ef_Net_first T (S1 _) hn2) (ea_cons (ev_I (g := fun i j => .int (i + j)) (ef_Net_last T (S1 _) hn2) ev_c) ea_nil)) H2 (Ex.refl _) _ fun H3 e3 => ?_
  have ecnt : (((N.first : Int) + N.count - 1 + 1) - (N.first : Int)).toNat = N.count := by omega
  refine ⟨(N.first : Int), (N.first : Int) + N.count - 1 + 1, rfl, ⟨by omega, by omega, by omega, by omega⟩, fun D hD => ?_⟩
  rw [ecnt]
  refine lc_range (lo := (N.first : Int)) (n := N.count) (Made a H3 D N.first) ⟨Ex.new hD, [], rfl, List.nodup_nil, upd_same, fun j q h => by simp at h⟩ (fun i H' hi M => ?_) (fun H' M => ?_)
  · refine ⟨rfl, ?_⟩
    unfold tYes
    show if true = true then _ else _
    rw [if_pos rfl]
    unfold tMake
    refine (ea_cons (x := .int ((N.first : Int) + i)) (ev_var rfl) ea_nil) H' (Ex.refl _) _ fun H4 e4 x dx' hx hdx' ne => ?_
    have M4 : Made a H3 D N.first i H4 := by
      obtain ⟨m1, as, m2, m3, m4, m5⟩ := M
      exact ⟨m1.trans e4, as, m2, m3, e4 _ _ m4, fun j q hq => by
        obtain ⟨dq, oq, q1, q2, q3⟩ := m5 j q hq
        exact ⟨dq, oq, e4 _ _ q1, e4 _ _ q2, q3⟩⟩
    exact ⟨x, dx', (N.first : Int) + i, rfl, upd_same, fun H5 hn5 k5 => ⟨rfl, made_turn hD M4 (by omega) hx hdx' hn5 k5⟩⟩
  · obtain ⟨m1, as, m2, m3, m4, m5⟩ := M
    have e23 := e3.trans m1
    have hd5 := e23 _ _ h2
    refine put_k (S0 _) hd5 T.c_Lender T.n_Lender_places rfl fun H5 kz hz => ?_
    rw [lenderF_b2] at hz
    refine k _ as ⟨kz.tab hd5 (hT2.ex e23), m3, dx, n, D, hz, ⟨dn, kz _ _ (e23 _ _ hn2) ne1⟩, kz.lst hd5 m4, ?_, by omega, fun j q ls hq hls => ?_⟩ ((k12.trans fun b o e _ => e23 _ _ e).trans kz)
    · show as.length = (List.replicate N.count Sd22.none_).length
      rw [List.length_replicate, m2]
    · have hls' : (List.replicate N.count Sd22.none_)[j]? = some ls := hls
      have el : ls = Sd22.none_ := by
        rw [List.getElem?_replicate] at hls'
        split at hls'
        · exact (Option.some.inj hls').symm
        · cases hls'
      subst el
      obtain ⟨dq, oq, q1, q2, q3⟩ := m5 j q hq
      exact ⟨dq, oq, kz _ _ q1 (ne_of q1 hd5 (first_name (by decide +kernel))), kz.lst hd5 q2⟩
/-! ### the desk -/
theorem pure_dInit (T : Txt P w K mg base a) (vs : List V) (H : Hp) (Q : VK) (E : XK) (h : sp_dInit K P w a vs H Q E) : t_dInit K P w a { nx := fun _ H' => Q .non H', rt := Q } (start ["self"] vs) H := by
  obtain ⟨d, dx, rfl, hd, hT, k⟩ := h
  refine st_put (v := .non) ev_c (ev_var rfl) hd T.c_Desk T.n_Desk_lender rfl fun H1 k1 h1 => ?_
  rw [deskF_b0] at h1
  exact k H1 ⟨k1.tab hd hT, dx, .non, h1, rfl⟩ k1
theorem LenderAt.kept {H H' : Hp} {q C dq d : Addr} {f : Str} {v : V} {r : List (Str × V)} {as : List Addr} {A : Sd22.Abs} (h : LenderAt a H d as A) (hq : H q = some (.ins C dq ((f, v) :: r))) (kp : Kept q H H') (n1 : (f == ("address" : Str)) = false) (n2 : (f == ("net" : Str)) = false) (n3 : (f == ("server" : Str)) = false) : LenderAt a H' d as A := by
  obtain ⟨t, nd, dx, n, l, h1, ⟨dn, h2⟩, h3, h4, h5, h6⟩ := h
  refine ⟨kp.tab hq t, nd, dx, n, l, kp _ _ h1 (ne_of hq h1 (first_name n2)).symm, ⟨dn, kp _ _ h2 (ne_of hq h2 (first_name n3)).symm⟩, kp.lst hq h3, h4, h5, fun j p x hp hx => ?_⟩
  obtain ⟨dp, op, q1, q2⟩ := h6 j p x hp hx
  exact ⟨dp, op, kp _ _ q1 (ne_of hq q1 (first_name n1)).symm, kp.lst hq q2⟩
theorem net_ok {ns : List Nat} {N : Sd22.Net} (h : Sd22.net ns = some N) (hw : ∀ x ∈ ns, W32 x) : N = netOf ns ∧ NetOk N := by
  have wd : ∀ i, W32 (ns.getD i 0) := fun i => by
    rw [List.getD_eq_getElem?_getD]
    cases e : ns[i]? with
    | none => show 0 < 4294967296; decide
    | some x => exact hw x (List.mem_of_getElem? e)
  unfold Sd22.net at h
  dsimp only at h
  split at h
  · rename_i c
    cases h
    refine ⟨rfl, ⟨wd 0, c.2.2.2.2.2.2.2.2.2.2, wd 1, wd 2, wd 3, c.2.2.2.2.2.2.2.2.2.1, c.2.1, c.2.2.1, ?_, c.2.2.2.2.2.2.2.1, c.2.2.2.2.2.2.2.2.1⟩⟩
    have z := c.2.2.2.1
    have z1 := c.2.1
    have big : (2 : Nat) ^ 32 = 4294967296 := by decide
    rw [big] at z
    dsimp only at z z1 ⊢
    omega
  · cases h
theorem good_fresh {N : Sd22.Net} (ok : NetOk N) : Good (Sd22.fresh N) := by
  have mem : ∀ l ∈ (Sd22.fresh N).leases, l = Sd22.none_ := fun l hl => List.eq_of_mem_replicate hl
  refine ⟨ok, List.length_replicate, fun l hl e => ?_, fun l hl => ?_, fun l hl => ?_, fun i j x y hx hy e hn => ?_⟩
  · rw [mem l hl]; rfl
  · rw [mem l hl]; exact Nat.zero_le _
  · rw [mem l hl]; exact Nat.zero_le _
  · exfalso
    refine hn ?_
    rw [mem x (List.mem_of_getElem? hx)]
    rfl
theorem step_open (o : Option Sd22.Abs) (ns : List Nat) : Sd22.step o (.open_ ns) = match Sd22.net ns with
    | none => (none, Sd22.no (-1))
    | some n => (some (Sd22.fresh n), Sd22.no 0) := by
  unfold Sd22.step
  dsimp only
  cases Sd22.net ns <;> rfl
theorem kept_frx {H H' : Hp} {q C dq : Addr} {fs : List (Str × V)} {f : Str} {v : V} {r : List (Str × V)} {T : List Str} (hq : H q = some (.ins C dq fs)) (ef : fs = (f, v) :: r) (hf : f ∈ T) (kp : Kept q H H') : FrX T H H' := fun b o e s => kp b o e fun z => by
  subst z
  rw [hq, ef] at e
  cases e
  exact s hf
end
end Lp
namespace Lp
open PySem PySem.Spec PyProof.Rows L2 Evl
section
variable {P : Program} {w : World} {K : PySem.W.Frag} {mg : Str → Option Value} {base : Heap} {a : Ad}
theorem s_asgCall {σ : L2.St} {H : Hp} {D : Ends} {sp : Sp} {E : XK} {t : TA} {vs : List V} {i : Nat} (ha : EvA t σ H vs) (k : ∀ H1, Ex H H1 → sp (vs ++ []) H1 (fun v H2 => D.nx (σ.set i (some v)) H2) E) : tAsg (tCall sp [] E t) (gName i) D σ H :=
  ha H (Ex.refl _) _ fun H1 e1 => k H1 e1
theorem DeskAt.ex {H H' : Hp} {d : Addr} {o : Option Sd22.Abs} (e : Ex H H') (h : DeskAt a H d o) : DeskAt a H' d o := by
  obtain ⟨t, dx, v, hd, hv⟩ := h
  refine ⟨t.ex e, dx, v, e _ _ hd, ?_⟩
  cases o with
  | none => exact hv
  | some A =>
    obtain ⟨l, as, e1, e2, e3⟩ := hv
    exact ⟨l, as, e1, e2.ex e, e3⟩
theorem zv_1 (n : Int) : zv [n] = [V.int n] := rfl
theorem ans_no (n : Int) : ansL (Sd22.no n) = [n] := rfl
theorem pure_begin (T : Txt P w K mg base a) (vs : List V) (H : Hp) (Q : VK) (E : XK) (h : sp_begin K P w a vs H Q E) : t_begin K P w a { nx := fun _ H' => Q .non H', rt := Q } (start ["self", "numbers", "net"] vs) H := by
  obtain ⟨d, l, o, ns, rfl, hD, hl, h7, hw, k⟩ := h
  obtain ⟨hT, dx, v, hd, hv⟩ := id hD
  refine s_asgMake (D := { nx := _, rt := Q }) (ea_cons (x := .ref l) (ev_var rfl) ea_nil) fun H1 n dn e1 hn hdn ne => ⟨n, dn, l, ns, rfl, upd_same, made_ex hn hdn _ _ (e1 _ _ hl), h7, fun H2 hN kp => ⟨rfl, ?_⟩⟩
  have e2 : Ex H H2 := fun b o e => kp b o (made_ex hn hdn b o (e1 b o e)) (ne_of_none (e1 b o e) hn)
  have S0 : ∀ H, Ev (tVar 0) [some (V.ref d), some (V.ref l), some (V.ref n)] H (.ref d) := fun H => ev_var rfl
  have S2 : ∀ H, Ev (tVar 2) [some (V.ref d), some (V.ref l), some (V.ref n)] H (.ref n) := fun H => ev_var rfl
  obtain ⟨dnn, hn2⟩ := id hN
  rw [step_open] at k
  show tSeq _ _ { nx := fun _ H' => Q .non H', rt := Q } [some (V.ref d), some (V.ref l), some (V.ref n)] H2
  refine q_when (et_not (et_B (ev_meth (S2 _) hn2 netF_m_is_right ea_nil (spv_isRight hN hw)))) (fun hb H3 e3 => ?_) (fun hb H3 e3 => ?_)
  · have en : Sd22.net ns = none := by
      unfold rightN at hb
      cases e : Sd22.net ns with
      | none => rfl
      | some N => rw [e] at hb; cases hb
    rw [en] at k
    have e03 := e2.trans e3
    refine st_put (D := { nx := _, rt := Q }) (v := .non) ev_c (S0 _) (e03 _ _ hd) T.c_Desk T.n_Desk_lender rfl fun H4 k4 h4 => ?_
    rw [deskF_p_lender] at h4
    refine s_retG (σ := [some (V.ref d), some (V.ref l), some (V.ref n)]) (xs := zv [-1]) (eg_new (el_sm (ea_cons ev_neg ea_nil) rfl)) fun q H5 e5 hq => ?_
    refine k H5 q hq ?_ ?_
    · exact ⟨(k4.tab (e03 _ _ hd) (hT.ex e03)).ex e5, dx, .non, e5 _ _ h4, rfl⟩
    · exact ((Ex.frx e03).trans (kept_frx (f := "lender") (v := v) (r := []) (e03 _ _ hd) rfl (by decide +kernel) k4)).trans (Ex.frx e5)
  · have en : ∃ N, Sd22.net ns = some N := by
      unfold rightN at hb
      cases e : Sd22.net ns with
      | none => rw [e] at hb; cases hb
      | some N => exact ⟨N, rfl⟩
    obtain ⟨N, en⟩ := en
    rw [en] at k
    obtain ⟨eN, ok⟩ := net_ok en hw
    have e03 := e2.trans e3
    refine st_make (D := { nx := _, rt := Q }) (ea_cons (S2 _) ea_nil) fun H4 x dy e4 hx hdy ne2 => ?_
    have e45 := made_ex (C := a.cLender) hx hdy
    have e05 := (e03.trans e4).trans e45
    refine ⟨x, dy, n, N, rfl, upd_same, eN ▸ hN.ex ((e3.trans e4).trans e45), ok, hT.ex e05, fun H6 as hL kp6 => ⟨rfl, ?_⟩⟩
    have e06 : Ex H H6 := fun b o e => kp6 b o (e05 b o e) (ne_of_none (e4 b o (e03 b o e)) hx)
    refine put_k (S0 _) (e06 _ _ hd) T.c_Desk T.n_Desk_lender rfl fun H7 k7 h7' => ?_
    rw [deskF_p_lender] at h7'
    refine s_retG (σ := [some (V.ref d), some (V.ref l), some (V.ref n)]) (xs := zv [0]) (eg_new (el_sm (ea_cons ev_c ea_nil) rfl)) fun q H8 e8 hq => ?_
    refine k H8 q hq ?_ ?_
    · exact ⟨(k7.tab (e06 _ _ hd) (hT.ex e06)).ex e8, dx, .ref x, e8 _ _ h7', x, as, rfl, (hL.kept (f := "lender") (v := v) (r := []) (e06 _ _ hd) k7 (by decide +kernel) (by decide +kernel) (by decide +kernel)).ex e8, good_fresh ok⟩
    · exact ((Ex.frx e06).trans (kept_frx (f := "lender") (v := v) (r := []) (e06 _ _ hd) rfl (by decide +kernel) k7)).trans (Ex.frx e8)
theorem said_ans (s : Sd22.Said) : zv (ansL (match s with
    | none => Sd22.no 0
    | some r => ⟨r.1.length, r.1, [r.2.1, r.2.2]⟩)) = iv (saidL s) := by
  cases s with
  | none => rfl
  | some r =>
    show zv ((r.1.length : Int) :: (Sd22Neutral.ints [r.2.1, r.2.2] ++ Sd22Neutral.ints r.1)) = iv (r.1.length :: r.2.1 :: r.2.2 :: r.1)
    show V.int (r.1.length : Int) :: V.int (r.2.1 : Int) :: V.int (r.2.2 : Int) :: zv (Sd22Neutral.ints r.1) = _
    rw [zv_iv]
    rfl
theorem step_packet (A : Sd22.Abs) (b : List Nat) : Sd22.step (some A) (.packet (some b)) = match Sd22.read b with
    | none => (some A, Sd22.no (-2))
    | some p => (some (Sd22.handle A p).1, match (Sd22.handle A p).2 with
      | none => Sd22.no 0
      | some r => ⟨r.1.length, r.1, [r.2.1, r.2.2]⟩) := by
  unfold Sd22.step
  dsimp only
  cases Sd22.read b with
  | none => rfl
  | some p =>
    dsimp only
    cases (Sd22.handle A p).2 <;> rfl
theorem pure_take (T : Txt P w K mg base a) (vs : List V) (H : Hp) (Q : VK) (E : XK) (h : sp_take K P w a vs H Q E) : t_take K P w a { nx := fun _ H' => Q .non H', rt := Q } (start ["self", "packet", "message"] vs) H := by
  obtain ⟨d, l, A, b, rfl, hD, hl, h15, hB, k⟩ := h
  obtain ⟨hT, dx, v, hd, x, as, rfl, hL, g⟩ := id hD
  have S1 : ∀ y H, Ev (tVar 1) [some (V.ref d), some (V.ref l), y] H (.ref l) := fun y H => ev_var rfl
  refine q_when (et_test (ev_I (g := fun i j => .bl (decide (j < i))) (ev_lenG (eg_ref (S1 none _) hl)) ev_c)) (fun hb H1 e1 => ?_) (fun hb H1 e1 => ?_)
  · rw [decide_eq_true_eq, iv_len] at hb
    omega
  refine s_asgCall (D := { nx := _, rt := Q }) (ea_cons (S1 none _) ea_nil) fun H2 e2 => ?_
  have e02 := e1.trans e2
  rw [step_packet] at k
  refine ⟨l, b, rfl, e02 _ _ hl, hB, fun er H3 e3 => ?_, fun p er H3 m e3 hM => ?_⟩
  · rw [er] at k
    show tSeq _ _ { nx := fun _ H' => Q .non H', rt := Q } [some (V.ref d), some (V.ref l), some .non] H3
    refine q_when (b := true) (et_test (ev_isN (x := .non) (ev_var rfl))) (fun _ H4 e4 => ?_) (fun hb => Bool.noConfusion hb)
    refine s_retG (xs := zv [-2]) (eg_new (el_sm (ea_cons ev_neg ea_nil) rfl)) fun q H5 e5 hq => ?_
    have e05 := ((e02.trans e3).trans e4).trans e5
    exact k H5 q hq (hD.ex e05) (Ex.frx e05)
  · rw [er] at k
    have S0 : ∀ H, Ev (tVar 0) [some (V.ref d), some (V.ref l), some (V.ref m)] H (.ref d) := fun H => ev_var rfl
    have S2 : ∀ H, Ev (tVar 2) [some (V.ref d), some (V.ref l), some (V.ref m)] H (.ref m) := fun H => ev_var rfl
    show tSeq _ _ { nx := fun _ H' => Q .non H', rt := Q } [some (V.ref d), some (V.ref l), some (V.ref m)] H3
    refine q_when (et_test (ev_isN (S2 _))) (fun hb => absurd hb (by rw [ref_not]; exact Bool.false_ne_true)) (fun _ H4 e4 => ?_)
    have e04 := (e02.trans e3).trans e4
    have hL4 := hL.ex e04
    obtain ⟨t, nd, dxx, n, ll, h1, h2, hP⟩ := id hL4
    have ok := read_ok er hB
    refine s_retMeth (ef_Desk_lender T (S0 _) (e04 _ _ hd)) h1 lenderF_m_handle (ea_cons (S2 _) ea_nil) fun H5 e5 => ⟨x, as, A, m, p, rfl, hL4.ex e5, g, hM.ex (e4.trans e5), ok, fun H6 q hq hL6 f6 => ?_⟩
    have e05 := e04.trans e5
    refine k H6 q ?_ ?_ ((Ex.frx e05).trans (FrX.sub (fun k hk => by
      rcases List.mem_cons.mp hk with rfl | hk
      · exact List.mem_cons_self
      · exact List.mem_cons_of_mem _ (List.mem_cons.mpr (.inl (List.mem_singleton.mp hk)))) f6))
    · rw [hq, said_ans]
    · exact ⟨hL6.1, dx, .ref x, f6 _ _ (e05 _ _ hd) (show ("lender" : Str) ∉ LT by decide +kernel), x, as, rfl, hL6, good_handle g ok⟩
theorem step_tick (A : Sd22.Abs) (t : Nat) : Sd22.step (some A) (.tick t) = (some (if t < A.now then A else { A with now := t }), Sd22.no (if t < A.now then -1 else 0)) := by
  unfold Sd22.step
  dsimp only
  by_cases c : t < A.now
  · rw [if_pos c, if_pos c, if_pos c]
  · rw [if_neg c, if_neg c, if_neg c]
theorem step_look1 (A : Sd22.Abs) (x : Nat) : (Sd22.step (some A) (.look x)).1 = some A := by
  unfold Sd22.step
  dsimp only
  cases A.place x <;> rfl
theorem step_none (x : Sd22.Call) (h : ∀ l, x ≠ .open_ l) : Sd22.step none x = (none, Sd22.no (-3)) := by
  cases x with
  | open_ l => exact absurd rfl (h l)
  | packet b => rfl
  | tick t => rfl
  | look t => rfl
theorem FrX.ltd {H H' : Hp} (f : FrX LT H H') : FrX DT H H' := FrX.sub (fun k hk => by
  rcases List.mem_cons.mp hk with rfl | hk
  · exact List.mem_cons_self
  · exact List.mem_cons_of_mem _ (List.mem_cons.mpr (.inl (List.mem_singleton.mp hk)))) f
theorem len_DT : ("lender" : Str) ∉ LT := by decide +kernel
theorem pure_respond (T : Txt P w K mg base a) (vs : List V) (H : Hp) (Q : VK) (E : XK) (h : sp_respond K P w a vs H Q E) : t_respond K P w a { nx := fun _ H' => Q .non H', rt := Q } (start ["self", "call", "given"] vs) H := by
  obtain ⟨d, c, l, o, ns, x, rfl, hD, hl, hc, k⟩ := h
  obtain ⟨hT, dx, v, hd, hv⟩ := id hD
  have S0 : ∀ H, Ev (tVar 0) (start ["self", "call", "given"] [V.ref d, V.int (c : Int), V.ref l]) H (.ref d) := fun H => ev_var rfl
  have S1 : ∀ H, Ev (tVar 1) (start ["self", "call", "given"] [V.ref d, V.int (c : Int), V.ref l]) H (.int (c : Int)) := fun H => ev_var rfl
  have S2 : ∀ H, Ev (tVar 2) (start ["self", "call", "given"] [V.ref d, V.int (c : Int), V.ref l]) H (.ref l) := fun H => ev_var rfl
  have cE : ∀ {H'} (n : Nat), EvT (tTest (tOp rEq (tVar 1) (tC (.int (n : Int))))) (start ["self", "call", "given"] [V.ref d, V.int (c : Int), V.ref l]) H' (c == n) := fun n => et_is (et_test (ev_eq (S1 _) ev_c rfl)) int_eq_nat
  refine q_when (cE 0) (fun hb H1 e1 => ?_) (fun hb0 H1 e1 => ?_)
  · rw [beq_iff_eq] at hb
    rcases hc with ⟨c0, h7, hw, rfl⟩ | ⟨c1, _⟩ | ⟨_, c2, _⟩ | ⟨_, c3, _⟩
    · exact s_retMeth (S0 _) (e1 _ _ hd) deskF_m_begin (ea_cons (S2 _) ea_nil) fun H2 e2 => ⟨d, l, o, ns, rfl, hD.ex (e1.trans e2), (e1.trans e2) _ _ hl, h7, hw, fun H3 q hq hD3 f3 => k H3 q hq hD3 ((Ex.frx (e1.trans e2)).trans f3)⟩
    · omega
    · omega
    · omega
  rw [beq_eq_false_iff_ne] at hb0
  have no : ∀ l, x ≠ .open_ l := by
    rcases hc with ⟨c0, _⟩ | ⟨_, _, _, rfl⟩ | ⟨_, _, _, rfl⟩ | ⟨_, _, _, rfl⟩
    · exact absurd c0 hb0
    · intro l z; cases z
    · intro l z; cases z
    · intro l z; cases z
  cases o with
  | none =>
    obtain rfl : v = .non := hv
    refine q_when (b := true) (et_test (ev_isN (x := .non) (ef_Desk_lender T (S0 _) (e1 _ _ hd)))) (fun _ H2 e2 => ?_) (fun hb => Bool.noConfusion hb)
    rw [step_none x no] at k
    exact s_retG (xs := zv [-3]) (eg_new (el_sm (ea_cons ev_neg ea_nil) rfl)) fun q H3 e3 hq => k H3 q hq (hD.ex ((e1.trans e2).trans e3)) (Ex.frx ((e1.trans e2).trans e3))
  | some A =>
    obtain ⟨x', as, rfl, hL, g⟩ := id hv
    refine q_when (et_test (ev_isN (ef_Desk_lender T (S0 _) (e1 _ _ hd)))) (fun hb => absurd hb (by rw [ref_not]; exact Bool.false_ne_true)) (fun _ H2 e2 => ?_)
    have e02 := e1.trans e2
    refine q_when (cE 1) (fun hb H3 e3 => ?_) (fun hb1 H3 e3 => ?_)
    · rw [beq_iff_eq] at hb
      rcases hc with ⟨c0, _⟩ | ⟨c1, hle, hB, rfl⟩ | ⟨_, c2, _⟩ | ⟨_, c3, _⟩
      · omega
      · exact s_retMeth (S0 _) ((e02.trans e3) _ _ hd) deskF_m_take (ea_cons (S2 _) ea_nil) fun H4 e4 => ⟨d, l, A, ns, rfl, hD.ex ((e02.trans e3).trans e4), ((e02.trans e3).trans e4) _ _ hl, hle, hB, fun H5 q hq hD5 f5 => k H5 q hq hD5 ((Ex.frx ((e02.trans e3).trans e4)).trans f5)⟩
      · omega
      · omega
    rw [beq_eq_false_iff_ne] at hb1
    have e03 := e02.trans e3
    have hL3 := hL.ex e03
    obtain ⟨t, nd, dxx, n, ll, h1, h2, hP⟩ := id hL3
    refine q_when (cE 2) (fun hb H4 e4 => ?_) (fun hb2 H4 e4 => ?_)
    · rw [beq_iff_eq] at hb
      rcases hc with ⟨c0, _⟩ | ⟨c1, _⟩ | ⟨s, c2, rfl, rfl⟩ | ⟨_, c3, _⟩
      · omega
      · omega
      · have e04 := e03.trans e4
        have hx : Ev (tOp (rIxL K) (tVar 2) (tC (.int 0))) (start ["self", "call", "given"] [V.ref d, V.int (c : Int), V.ref l]) H4 (.int (s : Int)) := ev_ixL (i := 0) (S2 _) (sq_of (e04 _ _ hl)) ev_c rfl
        rw [step_tick] at k
        refine s_retMeth (ef_Desk_lender T (S0 _) (e04 _ _ hd)) (e4 _ _ h1) lenderF_m_tick (ea_cons hx ea_nil) fun H5 e5 => ⟨x', as, A, s, rfl, hL3.ex (e4.trans e5), fun H6 q hq hL6 f6 => ?_⟩
        have e05 := e04.trans e5
        refine k H6 q ?_ ?_ ((Ex.frx e05).trans (FrX.ltd f6))
        · rw [hq]
          by_cases z : s < A.now
          · rw [if_pos z]; show _ = some (HO.lst (zv (ansL (Sd22.no (if s < A.now then -1 else 0))))); rw [if_pos z]; rfl
          · rw [if_neg z]; show _ = some (HO.lst (zv (ansL (Sd22.no (if s < A.now then -1 else 0))))); rw [if_neg z]; rfl
        · refine ⟨hL6.1, dx, .ref x', f6 _ _ (e05 _ _ hd) len_DT, x', as, rfl, hL6, ?_⟩
          by_cases z : s < A.now
          · rw [if_pos z]; exact g
          · rw [if_neg z]; exact ⟨g.net, g.len, g.refused, g.state, g.wlen, g.one⟩
      · omega
    · rw [beq_eq_false_iff_ne] at hb2
      rcases hc with ⟨c0, _⟩ | ⟨c1, _⟩ | ⟨_, c2, _⟩ | ⟨y, c3, rfl, rfl⟩
      · omega
      · omega
      · omega
      · have e04 := e03.trans e4
        have hx : Ev (tOp (rIxL K) (tVar 2) (tC (.int 0))) (start ["self", "call", "given"] [V.ref d, V.int (c : Int), V.ref l]) H4 (.int (y : Int)) := ev_ixL (i := 0) (S2 _) (sq_of (e04 _ _ hl)) ev_c rfl
        have es := step_look1 A y
        refine s_retMeth (ef_Desk_lender T (S0 _) (e04 _ _ hd)) (e4 _ _ h1) lenderF_m_look (ea_cons hx ea_nil) fun H5 e5 => ⟨x', as, A, y, rfl, hL3.ex (e4.trans e5), g, fun H6 q hq e6 => ?_⟩
        have e06 := (e04.trans e5).trans e6
        refine k H6 q hq ?_ (Ex.frx e06)
        rw [es]
        exact hD.ex e06
end
end Lp
namespace Lp
open PySem PySem.Spec PyProof.Rows L2 Evl
/-! ### a list that a call knows nothing of -/
def hide (q : Addr) (H : Hp) : Hp := fun b => if b = q then none else H b
theorem hide_same {q : Addr} {H : Hp} : hide q H q = none := by unfold hide; rw [if_pos rfl]
theorem hide_ne {q b : Addr} {H : Hp} (h : b ≠ q) : hide q H b = H b := by unfold hide; rw [if_neg h]
theorem hide_some {q b : Addr} {H : Hp} {o : HO} (h : hide q H b = some o) : b ≠ q ∧ H b = some o := by
  by_cases c : b = q
  · rw [c, hide_same] at h
    cases h
  · rw [hide_ne c] at h
    exact ⟨c, h⟩
def aside (sp : Sp) : Sp := fun vs H Q E => ∃ q xs, H q = some (.lst xs) ∧ sp vs (hide q H) (fun v H' => H' q = none → Q v (upd H' q (.lst xs))) E
theorem fn_aside {P : Program} {w : World} {K : PySem.W.Frag} {mg : Str → Option Value} {base : Heap} {k : Nat} {f : Addr} {fd : FuncData} {ps : List Str} {sp : Sp} (F : FnOk P w K mg base CX0 k f fd ps sp) : FnOk P w K mg base CX0 k f fd ps (aside sp) := by
  refine ⟨fun vs H Q E ⟨q, xs, _, h⟩ => F.len vs _ _ E h, fun A outer s H args us vs Q E hr he hb hv ⟨q, xs, hq, h⟩ => ?_⟩
  have hok0 : HOk P w (hide q H) s.heap := fun b o e => by
    obtain ⟨nb, e1⟩ := hide_some e
    refine (he.hok b o e1).stay (fun _ _ _ z => z) (fun c z => ?_) fun c ys z => ?_
    · rw [hide_ne (ne_of z hq (fun y => by cases y))]; exact z
    · rw [hide_ne (ne_of z hq (fun y => by cases y))]; exact z
  have hn : ∀ {b}, H b = none → b ≠ q ∧ hide q H b = none := fun {b} z => by
    have nb : b ≠ q := by
      rintro rfl
      rw [hq] at z
      cases z
    exact ⟨nb, by rw [hide_ne nb]; exact z⟩
  refine codeAny_mono (F.run A outer s (hide q H) args us vs _ E hr ⟨he.frames, he.mod, fun b o e => ⟨(he.bs b o e).1, (hn (he.bs b o e).2).2⟩, he.bsz, he.funs, fun b hb => (hn (he.frf b hb)).2, hok0, he.bare⟩ hb hv h) fun r s' hr' => ?_
  cases r with
  | error e => exact hr'
  | ok r =>
    cases r with
    | ret u =>
      obtain ⟨v, H', os, ba, un, ok, rv, hQ⟩ := hr'
      obtain ⟨z, its, n, r1, e1⟩ := he.hok q _ hq
      have nf : q ∉ frs outer := fun c => by
        have y := he.frf q c
        rw [hq] at y
        cases y
      have hq' : H' q = none := un.free q _ e1 hide_same (List.not_mem_nil)
      have e1' := un.keep q _ e1 hide_same nf List.not_mem_nil
      refine ⟨v, upd H' q (.lst xs), os, ba, ?_, ?_, rv, hQ hq'⟩
      · refine ⟨fun b o e n1 => un.keep b o e (hn n1).2, fun b o e n1 => un.slot b o e (hn n1).2, fun b o e n1 n2 => ?_, un.there, fun b ys e => ?_, fun b o u e => ?_, fun b ps e => ?_⟩
        · rw [upd_ne (hn n1).1]
          exact un.free b o e (hn n1).2 n2
        · have nb := ne_of e hq (fun y => by cases y)
          rw [upd_ne nb]
          exact un.tups b ys (by rw [hide_ne nb]; exact e)
        · have nb := ne_of e hq (fun y => by cases y)
          rw [upd_ne nb]
          exact un.frzs b o u (by rw [hide_ne nb]; exact e)
        · have nb := ne_of e hq (fun y => by cases y)
          rw [upd_ne nb]
          exact un.tbls b ps (by rw [hide_ne nb]; exact e)
      · intro b o e
        by_cases c : b = q
        · subst c
          rw [upd_same] at e
          cases e
          exact ⟨z, its, n, r1, e1'⟩
        · rw [upd_ne c] at e
          refine (ok b o e).stay (fun _ _ _ z => z) (fun c z => ?_) fun c ys z => ?_
          · rw [upd_ne (ne_of_none z hq')]; exact z
          · rw [upd_ne (ne_of_none z hq')]; exact z
    | _ => exact hr'
end Lp
namespace Lp
open PySem PySem.Spec PyProof.Rows L2 Evl
/-! ### the calls of one list -/
theorem zv_nats : ∀ {l : List Int}, (∀ x ∈ l, 0 ≤ x) → zv l = iv (Sd22Neutral.nats l)
  | [], _ => rfl
  | x :: r, h => by
    show V.int x :: zv r = V.int ((x.toNat : Nat) : Int) :: iv (Sd22Neutral.nats r)
    rw [zv_nats fun y hy => h y (List.mem_cons_of_mem _ hy), Int.toNat_of_nonneg (h x List.mem_cons_self)]
theorem nats_len (l : List Int) : (Sd22Neutral.nats l).length = l.length := List.length_map ..
theorem nats_mem {l : List Int} {P : Nat → Prop} (h : ∀ x ∈ l, P x.toNat) : ∀ y ∈ Sd22Neutral.nats l, P y := fun y hy => by
  obtain ⟨x, hx, rfl⟩ := List.mem_map.mp hy
  exact h x hx
/-- one call off the front of a list: its place, where what is handed begins and how much it is -/
structure NextCall (l : List Int) (c lo n : Nat) (given : List Nat) (x : Sd22.Call) (c0 : List (List Int)) : Prop where
  place : l[0]? = some (c : Int)
  fits : lo + n ≤ l.length
  two : (c = 0 ∨ c = 1) → lo = 2 ∧ l[1]? = some (n : Int)
  one : c ≠ 0 → c ≠ 1 → lo = 1 ∧ n = 1
  hand : zv ((l.drop lo).take n) = iv given
  is : CallIs c given x
  step : ∀ s, Sd22Neutral.step s (PySd22.whole c0) = ((Sd22.step s x).1, ansL (Sd22.step s x).2)
theorem within_iff {lo hi z : Int} (h : PyInside.within lo hi z = true) : lo ≤ z ∧ z ≤ hi := by
  unfold PyInside.within at h
  rw [Bool.and_eq_true, decide_eq_true_eq, decide_eq_true_eq] at h
  exact h
theorem shape_some {p : Int} {x : Nat × Nat} (h : PySd22.shape p = some x) : (p = 0 ∧ x = (0, 1)) ∨ (p = 1 ∧ x = (0, 1)) ∨ (p = 2 ∧ x = (1, 0)) ∨ (p = 3 ∧ x = (1, 0)) := by
  unfold PySd22.shape at h
  repeat' split at h
  all_goals first | (cases h; done) | (injection h with h; subst h; simp_all)
/-- one row -/
theorem rows_one {r : List Int} {x : List (List Int) × List Int} (h : PyFlat.rows 1 r = some x) : ∃ (n : Nat) (r' : List Int), r = (n : Int) :: r' ∧ n ≤ r'.length ∧ x = ([r'.take n], r'.drop n) := by
  cases r with
  | nil => cases h
  | cons m r' =>
    unfold PyFlat.rows PyFlat.row at h
    dsimp only at h
    by_cases c : 0 ≤ m ∧ m.toNat ≤ r'.length
    · rw [if_pos c] at h
      unfold PyFlat.rows at h
      injection h with h
      refine ⟨m.toNat, r', by rw [Int.toNat_of_nonneg c.1], c.2, h.symm⟩
    · rw [if_neg c] at h
      cases h
theorem bound0 {L : List Int} (h : PyInside.call PySd22.bound [[0], L] = true) : L.length = 7 ∧ ∀ x ∈ L, 0 ≤ x ∧ x ≤ 4294967295 := by
  have h1 : (decide (7 ≤ L.length) && decide (L.length ≤ 7) && L.all (PyInside.within 0 4294967295) && true) = true := h
  rw [Bool.and_true, Bool.and_eq_true, Bool.and_eq_true, decide_eq_true_eq, decide_eq_true_eq, List.all_eq_true] at h1
  exact ⟨by omega, fun x hx => within_iff (h1.2 x hx)⟩
theorem bound1 {L : List Int} (h : PyInside.call PySd22.bound [[1], L] = true) : L.length ≤ 1500 ∧ ∀ x ∈ L, 0 ≤ x ∧ x ≤ 255 := by
  have h1 : (decide (0 ≤ L.length) && decide (L.length ≤ 1500) && L.all (PyInside.within 0 255) && true) = true := h
  rw [Bool.and_true, Bool.and_eq_true, Bool.and_eq_true, decide_eq_true_eq, decide_eq_true_eq, List.all_eq_true] at h1
  exact ⟨h1.1.2, fun x hx => within_iff (h1.2 x hx)⟩
theorem bound2 {x : Int} (h : PyInside.call PySd22.bound [[2, x]] = true) : 0 ≤ x := by
  have h1 : ((PyInside.within 0 4294967295 x && true) && true) = true := h
  rw [Bool.and_true, Bool.and_true] at h1
  exact (within_iff h1).1
theorem bound3 {x : Int} (h : PyInside.call PySd22.bound [[3, x]] = true) : 0 ≤ x := by
  have h1 : ((PyInside.within 0 4294967295 x && true) && true) = true := h
  rw [Bool.and_true, Bool.and_true] at h1
  exact (within_iff h1).1
theorem next_call {f : Nat} {p : Int} {r : List Int} {cs : List (List (List Int))} (h : PyFlat.calls PySd22.shape f (p :: r) = some cs) (hb : PyInside.calls PySd22.bound cs = true) :
    ∃ c lo n given x c0 cs' f', cs = c0 :: cs' ∧ NextCall (p :: r) c lo n given x c0 ∧ PyFlat.calls PySd22.shape f' ((p :: r).drop (lo + n)) = some cs' ∧ PyInside.calls PySd22.bound cs' = true := by
  cases f with
  | zero => cases h
  | succ f =>
    unfold PyFlat.calls at h
    cases e1 : PyFlat.call PySd22.shape (p :: r) with
    | none => rw [e1] at h; cases h
    | some ct =>
      obtain ⟨c0, t⟩ := ct
      rw [e1] at h
      dsimp only at h
      cases e2 : PyFlat.calls PySd22.shape f t with
      | none => rw [e2] at h; cases h
      | some cs' =>
        rw [e2] at h
        injection h with h
        subst h
        have hb' : (PyInside.call PySd22.bound c0 && PyInside.calls PySd22.bound cs') = true := hb
        rw [Bool.and_eq_true] at hb'
        obtain ⟨hb0, hbs⟩ := hb'
        unfold PyFlat.call at e1
        dsimp only at e1
        cases es : PySd22.shape p with
        | none => rw [es] at e1; cases e1
        | some nk =>
          rw [es] at e1
          have two : ∀ L, PyFlat.rows 1 (r.drop 0) = some L → nk = (0, 1) → c0 = (p :: r.take 0) :: L.1 ∧ t = L.2 := fun L eL en => by
            subst en
            dsimp only at e1
            rw [if_neg (Nat.not_lt_zero _), eL] at e1
            injection e1 with e1
            injection e1 with e1 e1'
            exact ⟨e1.symm, e1'.symm⟩
          have have2 : nk = (0, 1) → ∃ (n : Nat) (r' : List Int), r = (n : Int) :: r' ∧ n ≤ r'.length ∧ c0 = [[p], r'.take n] ∧ t = r'.drop n := fun en => by
            cases er : PyFlat.rows 1 (r.drop 0) with
            | none =>
              subst en
              dsimp only at e1
              rw [if_neg (Nat.not_lt_zero _), er] at e1
              cases e1
            | some L =>
              obtain ⟨z1, z2⟩ := two L er en
              obtain ⟨n, r', q1, q2, q3⟩ := rows_one er
              rw [List.drop_zero] at q1
              refine ⟨n, r', q1, q2, ?_, ?_⟩
              · rw [z1, q3]; rfl
              · rw [z2, q3]
          have have1 : nk = (1, 0) → ∃ (x : Int) (r' : List Int), r = x :: r' ∧ c0 = [[p, x]] ∧ t = r' := fun en => by
            subst en
            dsimp only at e1
            cases r with
            | nil => cases e1
            | cons x r' =>
              rw [if_neg (by rw [List.length_cons]; omega)] at e1
              unfold PyFlat.rows at e1
              injection e1 with e1
              injection e1 with e1 e1'
              exact ⟨x, r', rfl, e1.symm, e1'.symm⟩
          rcases shape_some es with ⟨ep, en⟩ | ⟨ep, en⟩ | ⟨ep, en⟩ | ⟨ep, en⟩
          · obtain ⟨n, r', rfl, hn, rfl, rfl⟩ := have2 en
            subst ep
            obtain ⟨b1, b2⟩ := bound0 hb0
            have ed : List.drop 2 ((0 : Int) :: (n : Int) :: r') = r' := rfl
            refine ⟨0, 2, n, Sd22Neutral.nats (r'.take n), .open_ (Sd22Neutral.nats (r'.take n)), _, cs', f, rfl, ⟨rfl, by simp only [List.length_cons]; omega, fun _ => ⟨rfl, rfl⟩, fun z => absurd rfl z, ?_, .inl ⟨rfl, by rw [nats_len, b1], nats_mem fun x hx => ?_, rfl⟩, fun s => rfl⟩, ?_, hbs⟩
            · rw [ed]
              exact zv_nats fun x hx => (b2 x hx).1
            · have := b2 x hx
              show x.toNat < 4294967296
              omega
            · rw [← List.drop_drop, ed]
              exact e2
          · obtain ⟨n, r', rfl, hn, rfl, rfl⟩ := have2 en
            subst ep
            obtain ⟨b1, b2⟩ := bound1 hb0
            have ed : List.drop 2 ((1 : Int) :: (n : Int) :: r') = r' := rfl
            refine ⟨1, 2, n, Sd22Neutral.nats (r'.take n), .packet (some (Sd22Neutral.nats (r'.take n))), _, cs', f, rfl, ⟨rfl, by simp only [List.length_cons]; omega, fun _ => ⟨rfl, rfl⟩, fun _ z => absurd rfl z, ?_, .inr (.inl ⟨rfl, by rw [nats_len]; exact b1, nats_mem fun x hx => ?_, rfl⟩), fun s => ?_⟩, ?_, hbs⟩
            · rw [ed]
              exact zv_nats fun x hx => (b2 x hx).1
            · have := b2 x hx
              omega
            · have ec : Sd22Neutral.callOf (PySd22.whole [[1], r'.take n]) = some (.packet (some (Sd22Neutral.nats (r'.take n)))) := by
                show some (Sd22.Call.packet (if 0 ≤ ((r'.take n).length : Int) ∧ ((r'.take n).length : Int) ≤ 1500 then some (Sd22Neutral.nats (r'.take n)) else none)) = _
                rw [if_pos (by omega)]
              unfold Sd22Neutral.step
              rw [ec]
              rfl
            · rw [← List.drop_drop, ed]
              exact e2
          · obtain ⟨x, r', rfl, rfl, rfl⟩ := have1 en
            subst ep
            have b := bound2 hb0
            refine ⟨2, 1, 1, [x.toNat], .tick x.toNat, _, cs', f, rfl, ⟨rfl, by simp only [List.length_cons]; omega, fun z => by omega, fun _ _ => ⟨rfl, rfl⟩, ?_, .inr (.inr (.inl ⟨_, rfl, rfl, rfl⟩)), fun s => rfl⟩, e2, hbs⟩
            exact zv_nats (l := [x]) fun y hy => by rw [List.mem_singleton.mp hy]; exact b
          · obtain ⟨x, r', rfl, rfl, rfl⟩ := have1 en
            subst ep
            have b := bound3 hb0
            refine ⟨3, 1, 1, [x.toNat], .look x.toNat, _, cs', f, rfl, ⟨rfl, by simp only [List.length_cons]; omega, fun z => by omega, fun _ _ => ⟨rfl, rfl⟩, ?_, .inr (.inr (.inr ⟨_, rfl, rfl, rfl⟩)), fun s => rfl⟩, e2, hbs⟩
            exact zv_nats (l := [x]) fun y hy => by rw [List.mem_singleton.mp hy]; exact b
end Lp
namespace Lp
open PySem PySem.Spec PyProof.Rows L2 Evl
section
variable {P : Program} {w : World} {K : PySem.W.Frag} {mg : Str → Option Value} {base : Heap} {a : Ad}
def t_answersA (K : PySem.W.Frag) (P : Program) (w : World) (a : Ad) : TS :=
  (tSeq (tAsg (tMake a.cDesk (sp_dInit K P w a) [] E0 tNil) (gName 1))
    (tSeq (tAsg (tLst tNil) (gName 2))
    (tSeq (tAsg (tC (.int 0)) (gName 3))
    (tSeq (tWhile (tTest (tOp rLt (tVar 3) (tCB (rLenS K) (tCons (tVar 0) tNil)))) (tSeq (tAsg (tOp (rIxL K) (tVar 0) (tVar 3)) (gName 4))
    (tSeq (tAsg (tOp rAdd (tVar 3) (tC (.int 1))) (gName 5))
    (tSeq (tAsg (tOp rAdd (tVar 3) (tC (.int 2))) (gName 6))
    (tSeq (tIfS (tOr (tTest (tOp rEq (tVar 4) (tC (.int 0)))) (tTest (tOp rEq (tVar 4) (tC (.int 1))))) (tSeq (tAsg (tOp rAdd (tVar 3) (tC (.int 2))) (gName 5))
    (tAsg (tOp rAdd (tVar 5) (tOp (rIxL K) (tVar 0) (tOp rAdd (tVar 3) (tC (.int 1))))) (gName 6))) tNext)
    (tSeq (tAsg (tMeth a.cDesk "respond" (aside (sp_respond K P w a)) [] E0 (tVar 1) (tCons (tVar 4) (tCons (tSl (rSlL K) (tVar 0) (tPart (tVar 5)) (tPart (tVar 6))) tNil))) (gName 7))
    (tSeq (tDrop (tBM K "list" rAppend (tVar 2) (tCons (tCB (rLenS K) (tCons (tVar 7) tNil)) tNil)))
    (tSeq (tDrop (tBM K "list" rExtend (tVar 2) (tCons (tVar 7) tNil)))
    (tAsg (tVar 6) (gName 3))))))))))
    (tRet (tVar 2))))))
section
variable {σ : L2.St} {H : Hp} {D : Ends} {tz : TS} {ta te tl : TE} {p C dx l b : Addr} {fs : List (Str × V)} {m : Str} {sp : Sp} {E : XK} {v : V} {xs zs : List V}
theorem q_asgM2 {i : Nat} (h : Ev ta σ H (.ref p)) (o : H p = some (.ins C dx fs)) (lk : fs.lookup m = none) (h1 : Ev te σ H v) (h2 : EvL tl σ H xs)
    (k : ∀ r H1, H r = none → Ex H H1 → H1 r = some (.lst xs) → sp [.ref p, v, .ref r] H1 (fun y H2 => tz D (σ.set i (some y)) H2) E) : tSeq (tAsg (tMeth C m sp [] E ta (tCons te (tCons tl tNil))) (gName i)) tz D σ H :=
  h H (Ex.refl _) _ fun H1 e1 => ⟨p, dx, fs, rfl, e1 _ _ o, lk, h1 H1 e1 _ fun H2 e2 => h2 H2 (e1.trans e2) _ fun r H3 r0 e3 hr => k r H3 (fresh_back (e1.trans e2) r0) ((e1.trans e2).trans e3) hr⟩
theorem q_appB (hl : H l = some (.lst xs)) (ha : Ev ta σ H (.ref l)) (h : Ev te σ H v) (hz : xs.length < sizeLine) (k : ∀ H1, Ex H H1 → tz D σ (upd H1 l (.lst (xs ++ [v])))) :
    tSeq (tDrop (tBM K "list" rAppend ta (tCons te tNil))) tz D σ H :=
  ha H (Ex.refl _) _ fun H1 e1 => ⟨Or.inl ⟨rfl, xs, sq_of (e1 l _ hl)⟩, h H1 e1 _ fun H2 e2 => ⟨l, xs, v, rfl, rfl, e2 l _ (e1 l _ hl), hz, k H2 (e1.trans e2)⟩⟩
theorem q_extB (hl : H l = some (.lst xs)) (hb : H b = some (.lst zs)) (ha : Ev ta σ H (.ref l)) (h : Ev te σ H (.ref b)) (hz : xs.length + zs.length ≤ sizeLine) (k : ∀ H1, Ex H H1 → tz D σ (upd H1 l (.lst (xs ++ zs)))) :
    tSeq (tDrop (tBM K "list" rExtend ta (tCons te tNil))) tz D σ H :=
  ha H (Ex.refl _) _ fun H1 e1 => ⟨Or.inl ⟨rfl, xs, sq_of (e1 l _ hl)⟩, h H1 e1 _ fun H2 e2 => ⟨l, b, xs, zs, rfl, rfl, e2 l _ (e1 l _ hl), e2 b _ (e1 b _ hb), hz, k H2 (e1.trans e2)⟩⟩
end
theorem hide_ex {q : Addr} {H H1 : Hp} (e : Ex H H1) : Ex (hide q H) (hide q H1) := fun b o h => by
  obtain ⟨nb, h1⟩ := hide_some h
  rw [hide_ne nb]
  exact e b o h1
theorem hide_le {q : Addr} {H : Hp} : Ex (hide q H) H := fun b o h => (hide_some h).2
theorem hide_upd {q : Addr} {H : Hp} {o : HO} : hide q (upd H q o) = hide q H := by
  funext b
  by_cases c : b = q
  · rw [c, hide_same, hide_same]
  · rw [hide_ne c, hide_ne c, upd_ne c]
theorem hide_back {q : Addr} {H : Hp} {o : HO} (h : H q = none) : hide q (upd H q o) = H := by
  funext b
  by_cases c : b = q
  · rw [c, hide_same, h]
  · rw [hide_ne c, upd_ne c]
theorem hide_id {q : Addr} {H : Hp} (h : H q = none) : Ex H (hide q H) := fun b o e => by
  rw [hide_ne (ne_of_none e h)]
  exact e
theorem sq_fr {T : List Str} {H H' : Hp} {l : Addr} {xs : List V} (h : SqL K H l xs) (f : FrX T H H') : SqL K H' l xs := by
  rcases h with (h | ⟨o, h⟩) | h
  · exact .inl (.inl (f _ _ h trivial))
  · exact .inl (.inr ⟨o, f _ _ h trivial⟩)
  · exact .inr h
theorem zv_get {l : List Int} {i : Nat} {n : Int} (h : l[i]? = some n) : (zv l)[i]? = some (V.int n) := by
  unfold zv
  rw [List.getElem?_map, h]
  rfl
theorem zv_len (l : List Int) : (zv l).length = l.length := List.length_map ..
theorem zv_app (x y : List Int) : zv (x ++ y) = zv x ++ zv y := List.map_append ..
theorem cut_zv (b : List Int) (lo hi : Nat) (h : hi ≤ b.length) (h1 : lo ≤ hi) : cutV (zv b) (some (lo : Int)) (some (hi : Int)) = zv ((b.drop lo).take (hi - lo)) := by
  unfold cutV
  rw [HT.sIx_nat, HT.sIx_nat, zv_len]
  unfold zv
  rw [← List.map_drop, ← List.map_take, Nat.min_eq_left h, Nat.min_eq_left (Nat.le_trans h1 h)]
theorem told_cons (s : Sd22Neutral.S) (c : List (List Int)) (r : List (List (List Int))) : PyFlat.told (PyFlat.played Sd22Neutral.step s (c :: r)) = (((Sd22Neutral.step s c).2.length : Int) :: (Sd22Neutral.step s c).2) ++ PyFlat.told (PyFlat.played Sd22Neutral.step (Sd22Neutral.step s c).1 r) := rfl
/-- where the calls have been answered up to -/
def Got (K : PySem.W.Frag) (a : Ad) (l d q : Addr) (ns : List Int) (m : Nat) (σ : L2.St) (H : Hp) : Prop :=
  ∃ (i : Nat) (told : List Int) (o : Option Sd22.Abs) (cs : List (List (List Int))) (f : Nat) (x4 x5 x6 x7 : Option V), σ = [some (.ref l), some (.ref d), some (.ref q), some (.int (i : Int)), x4, x5, x6, x7] ∧ cs.length = m ∧ i ≤ ns.length ∧
    PyFlat.calls PySd22.shape f (ns.drop i) = some cs ∧ PyInside.calls PySd22.bound cs = true ∧ told ++ PyFlat.told (PyFlat.played Sd22Neutral.step o (cs.map PySd22.whole)) = PySd22.answers ns ∧
    H q = some (.lst (zv told)) ∧ DeskAt a (hide q H) d o ∧ SqL K (hide q H) l (zv ns)
theorem asked_is {ns : List Int} (h : PySd22.answers_asked ns = true) : ∃ raw, PyFlat.calls PySd22.shape ns.length ns = some raw ∧ PyInside.calls PySd22.bound raw = true ∧ (PySd22.answers ns).length ≤ 10000000 ∧ PyFlat.told (PyFlat.played Sd22Neutral.step none (raw.map PySd22.whole)) = PySd22.answers ns := by
  unfold PySd22.answers_asked at h
  cases e : PyFlat.calls PySd22.shape ns.length ns with
  | none => rw [e] at h; cases h
  | some raw =>
    rw [e] at h
    dsimp only at h
    rw [Bool.and_eq_true, Bool.and_eq_true, Bool.and_eq_true, Bool.and_eq_true] at h
    refine ⟨raw, rfl, h.1.1.2, of_decide_eq_true h.2, ?_⟩
    unfold PySd22.answers PySd22.calls
    rw [e]
    rfl
theorem pure_answers (T : Txt P w K mg base a) (vs : List V) (H : Hp) (Q : VK) (E : XK) (h : sp_answers K P w a vs H Q E) : t_answersA K P w a { nx := fun _ H' => Q .non H', rt := Q } (start ["calls", "desk", "answered", "at", "call", "start", "behind", "answer"] vs) H := by
  obtain ⟨l, ns, rfl, hl, hlen, hpos, hask, hT, k⟩ := h
  obtain ⟨raw, ec, hb, hz, ea⟩ := asked_is hask
  refine s_asgMake (D := { nx := _, rt := Q }) ea_nil fun H1 d dx e1 hd hdx ne => ⟨d, dx, rfl, upd_same, (hT.ex e1).ex (made_ex hd hdx), fun H2 hD kp => ⟨rfl, ?_⟩⟩
  have e2 : Ex H H2 := fun b o e => kp b o (made_ex hd hdx b o (e1 b o e)) (ne_of_none (e1 b o e) hd)
  refine q_asgL (D := { nx := fun _ H' => Q .non H', rt := Q }) (el_lst ea_nil (by decide)) fun q H3 q0 e3 hq => ?_
  refine q_asg (D := { nx := fun _ H' => Q .non H', rt := Q }) (v := .int ((0 : Nat) : Int)) ev_c fun H4 e4 => ?_
  show tSeq _ _ { nx := fun _ H' => Q .non H', rt := Q } [some (V.ref l), some (V.ref d), some (V.ref q), some (V.int ((0 : Nat) : Int)), none, none, none, none] H4
  have e24 : Ex H2 (hide q H4) := (hide_id q0).trans (hide_ex (e3.trans e4))
  refine q_while (Got K a l d q ns) raw.length ⟨0, [], none, raw, ns.length, none, none, none, none, rfl, rfl, Nat.zero_le _, ec, hb, ea, e4 _ _ hq, hD.ex e24, ex_l (e2.trans e24) hl⟩ fun m σ' H' hW => ?_
  obtain ⟨i, told, o, cs, f, x4, x5, x6, x7, rfl, hm, hi, hc, hbs, ht, hqt, hDt, hlt⟩ := hW
  have S0 : ∀ {y4 y5 y6 y7 H}, Ev (tVar 0) [some (V.ref l), some (V.ref d), some (V.ref q), some (V.int (i : Int)), y4, y5, y6, y7] H (.ref l) := fun {_ _ _ _ _} => ev_var rfl
  have S1 : ∀ {y4 y5 y6 y7 H}, Ev (tVar 1) [some (V.ref l), some (V.ref d), some (V.ref q), some (V.int (i : Int)), y4, y5, y6, y7] H (.ref d) := fun {_ _ _ _ _} => ev_var rfl
  have S2 : ∀ {y4 y5 y6 y7 H}, Ev (tVar 2) [some (V.ref l), some (V.ref d), some (V.ref q), some (V.int (i : Int)), y4, y5, y6, y7] H (.ref q) := fun {_ _ _ _ _} => ev_var rfl
  have S3 : ∀ {y4 y5 y6 y7 H}, Ev (tVar 3) [some (V.ref l), some (V.ref d), some (V.ref q), some (V.int (i : Int)), y4, y5, y6, y7] H (.int (i : Int)) := fun {_ _ _ _ _} => ev_var rfl
  have L0 : ∀ {H2}, Ex H' H2 → SqL K H2 l (zv ns) := fun e => ex_l ((hide_ex e).trans hide_le) hlt
  refine ⟨decide ((i : Int) < ((zv ns).length : Int)), et_test (ev_I (g := fun i j => .bl (decide (i < j))) S3 (ev_len S0 (L0 (Ex.refl _)))), fun hlt' H5 e5 => ?_, fun hge H5 e5 => ?_⟩
  · rw [decide_eq_true_eq, zv_len] at hlt'
    cases ed : ns.drop i with
    | nil =>
      have z := congrArg List.length ed
      rw [List.length_drop] at z
      simp only [List.length_nil] at z
      omega
    | cons p r =>
      rw [ed] at hc
      obtain ⟨c, lo, n, given, x, c0, cs', f', rfl, nc, hc', hb'⟩ := next_call hc hbs
      rw [← ed] at nc hc'
      have np := nc.place
      rw [List.getElem?_drop, Nat.add_zero] at np
      have nf := nc.fits
      rw [List.length_drop] at nf
      have nh := nc.hand
      rw [List.drop_drop] at nh
      rw [List.drop_drop] at hc'
      refine ⟨Got K a l d q ns cs'.length, fun σ2 H2 hN => ⟨cs'.length, by rw [← hm]; exact Nat.lt_succ_self _, hN⟩, ?_⟩
      -- from where the bounds are known
      have fin : ∀ {H6}, Ex H5 H6 → ∀ D0 : Ends, D0.nx = Got K a l d q ns cs'.length →
          (tSeq (tAsg (tMeth a.cDesk "respond" (aside (sp_respond K P w a)) [] E0 (tVar 1) (tCons (tVar 4) (tCons (tSl (rSlL K) (tVar 0) (tPart (tVar 5)) (tPart (tVar 6))) tNil))) (gName 7))
            (tSeq (tDrop (tBM K "list" rAppend (tVar 2) (tCons (tCB (rLenS K) (tCons (tVar 7) tNil)) tNil)))
            (tSeq (tDrop (tBM K "list" rExtend (tVar 2) (tCons (tVar 7) tNil)))
            (tAsg (tVar 6) (gName 3))))) D0
            [some (V.ref l), some (V.ref d), some (V.ref q), some (V.int (i : Int)), some (.int (c : Int)), some (.int ((i + lo : Nat) : Int)), some (.int ((i + (lo + n) : Nat) : Int)), x7] H6 := by
        intro H6 e6 D0 hD0
        have e56 := e5.trans e6
        have hD6 := hDt.ex (hide_ex (q := q) e56)
        obtain ⟨_, dxd, vd, hd6, _⟩ := id hD6
        have hd6' := (hide_some hd6).2
        have ecut : cutV (zv ns) (some ((i + lo : Nat) : Int)) (some ((i + (lo + n) : Nat) : Int)) = iv given := by
          rw [cut_zv ns (i + lo) (i + (lo + n)) (by omega) (by omega), show i + (lo + n) - (i + lo) = n by omega]
          exact nh
        refine q_asgM2 (v := .int (c : Int)) S1 hd6' deskF_m_respond (ev_var rfl) (el_is (el_sl S0 (eo_some (ev_var rfl)) (eo_some (ev_var rfl)) (L0 e56)) ecut) fun r' H7 r0 e7 hr => ?_
        have e57 := e56.trans e7
        have hq6 := e56 _ _ hqt
        have hq7 := e57 _ _ hqt
        have nr : r' ≠ q := fun z => by
          rw [z, hq6] at r0
          cases r0
        refine ⟨q, zv told, hq7, d, c, r', o, given, x, rfl, hDt.ex (hide_ex e57), by rw [hide_ne nr]; exact hr, nc.is, fun H8 ra hra hD8 f8 hq8 => ?_⟩
        have sl8 := sq_fr (ex_l (hide_ex e57) hlt) f8
        have nra : ra ≠ q := ne_of_none hra hq8
        -- how long it all is
        have ht' := ht
        rw [List.map_cons, told_cons, nc.step] at ht'
        have hsz : told.length + (1 + (ansL (Sd22.step o x).2).length) ≤ 10000000 := by
          have z := congrArg List.length ht'
          simp only [List.length_append, List.length_cons] at z
          omega
        have sz : sizeLine = 16777216 := by decide
        show tSeq _ _ D0 [some (V.ref l), some (V.ref d), some (V.ref q), some (V.int (i : Int)), some (.int (c : Int)), some (.int ((i + lo : Nat) : Int)), some (.int ((i + (lo + n) : Nat) : Int)), some (V.ref ra)] (upd H8 q (.lst (zv told)))
        have hra' : upd H8 q (.lst (zv told)) ra = some (.lst (zv (ansL (Sd22.step o x).2))) := by rw [upd_ne nra]; exact hra
        refine q_appB upd_same S2 (ev_len (ev_var rfl) (sq_of hra')) (by rw [zv_len, sz]; omega) fun H9 e9 => ?_
        refine q_extB (b := ra) (zs := zv (ansL (Sd22.step o x).2)) upd_same (by rw [upd_ne nra]; exact e9 _ _ hra') S2 (ev_var rfl) (by rw [List.length_append, zv_len, zv_len, sz]; simp only [List.length_cons, List.length_nil]; omega) fun H10 e10 => ?_
        refine s_asg (v := .int ((i + (lo + n) : Nat) : Int)) (ev_var rfl) fun H11 e11 => ?_
        rw [hD0]
        have eh : Ex H8 (hide q H11) := by
          have z1 : Ex H8 (hide q H9) := by
            have z := hide_ex (q := q) e9
            rw [hide_back hq8] at z
            exact z
          have z2 := hide_ex (q := q) e10
          rw [hide_upd] at z2
          have z3 := hide_ex (q := q) e11
          rw [hide_upd] at z3
          exact (z1.trans z2).trans z3
        refine ⟨i + (lo + n), told ++ (((ansL (Sd22.step o x).2).length : Int) :: ansL (Sd22.step o x).2), (Sd22.step o x).1, cs', f', some (.int (c : Int)), some (.int ((i + lo : Nat) : Int)), some (.int ((i + (lo + n) : Nat) : Int)), some (V.ref ra), rfl, rfl, by omega, hc', hb', ?_, ?_, hD8.ex eh, ex_l eh sl8⟩
        · rw [List.append_assoc]
          exact ht'
        · refine e11 _ _ ?_
          rw [upd_same, zv_app]
          show some (HO.lst ((zv told ++ [V.int ((zv (ansL (Sd22.step o x).2)).length : Int)]) ++ zv (ansL (Sd22.step o x).2))) = some (HO.lst (zv told ++ (V.int ((ansL (Sd22.step o x).2).length : Int) :: zv (ansL (Sd22.step o x).2))))
          rw [zv_len, List.append_assoc]
          rfl
      refine q_asg (ev_ixL S0 (L0 e5) S3 (zv_get np)) fun H6 e6 => ?_
      refine q_asg (v := .int ((i + 1 : Nat) : Int)) (ev_is (ev_I (g := fun i j => .int (i + j)) (i := (i : Int)) (j := 1) (ev_var rfl) ev_c) (congrArg V.int (by omega))) fun H7 e7 => ?_
      refine q_asg (v := .int ((i + 2 : Nat) : Int)) (ev_is (ev_I (g := fun i j => .int (i + j)) (i := (i : Int)) (j := 2) (ev_var rfl) ev_c) (congrArg V.int (by omega))) fun H8 e8 => ?_
      have e58 := (e6.trans e7).trans e8
      have cE : ∀ {σ H'} (n : Nat), σ[4]? = some (some (V.int (c : Int))) → EvT (tTest (tOp rEq (tVar 4) (tC (.int (n : Int))))) σ H' (c == n) := fun n hσ => et_is (et_test (ev_eq (ev_var hσ) ev_c rfl)) int_eq_nat
      refine q_if (b := c == 0 || c == 1) (et_or (cE 0 rfl) fun _ => cE 1 rfl) (fun hb2 H9 e9 => ?_) (fun hb1 H9 e9 => ?_)
      · rw [Bool.or_eq_true, beq_iff_eq, beq_iff_eq] at hb2
        obtain ⟨rfl, n1⟩ := nc.two hb2
        rw [List.getElem?_drop] at n1
        have e59 := e58.trans e9
        refine q_asg (v := .int ((i + 2 : Nat) : Int)) (ev_is (ev_I (g := fun i j => .int (i + j)) (i := (i : Int)) (j := 2) (ev_var rfl) ev_c) (congrArg V.int (by omega))) fun H10 e10 => ?_
        refine s_asg (v := .int ((i + (2 + n) : Nat) : Int)) (ev_is (ev_I (g := fun i j => .int (i + j)) (i := ((i + 2 : Nat) : Int)) (j := (n : Int)) (ev_var rfl) (ev_ixL (i := i + 1) S0 (L0 ((e5.trans e59).trans e10)) (ev_is (v := .int ((i + 1 : Nat) : Int)) (ev_I (g := fun i j => .int (i + j)) (i := (i : Int)) (j := 1) (ev_var rfl) ev_c) (congrArg V.int (by omega))) (zv_get n1))) (congrArg V.int (by omega))) fun H11 e11 => ?_
        exact fin ((e59.trans e10).trans e11) _ rfl
      · rw [Bool.or_eq_false_iff, beq_eq_false_iff_ne, beq_eq_false_iff_ne] at hb1
        obtain ⟨rfl, rfl⟩ := nc.one hb1.1 hb1.2
        exact fin (e58.trans e9) _ rfl
  · rw [decide_eq_false_iff_not, zv_len] at hge
    have ei : ns.drop i = [] := List.drop_of_length_le (by omega)
    rw [ei] at hc
    have ecs : cs = [] := by
      cases f with
      | zero => injection hc with hc; exact hc.symm
      | succ f => injection hc with hc; exact hc.symm
    subst ecs
    have et : told = PySd22.answers ns := by
      rw [← ht]
      exact (List.append_nil _).symm
    subst et
    exact s_ret S2 fun H6 e6 => k H6 q (e6 _ _ (e5 _ _ hqt))
end
end Lp
namespace Lp
open PySem PySem.Spec PyProof.Rows L2 Evl
theorem qOld_is : (("oldest_free" : Str) ++ ".<locals>." ++ "<lambda>" : Str) = qOld := by decide +kernel
theorem var_mono {i : Nat} (σ : L2.St) (H : Hp) (Q Q' : VK) (h : ∀ v H', Q v H' → Q' v H') : tVar i σ H Q → tVar i σ H Q' := fun ⟨v, e, q⟩ => ⟨v, e, h _ _ q⟩
theorem m1_get {X : Cx} {o e : Expr} {apos cpos : Pos} (h1 : attributeBase o "get" X.env (eval o X.env) = eval o X.env := by rfl) (h2 : ((backTo cpos (starEach [e] X.env)).all (fun x => !x.1) && (backToKw cpos (keywordEach [] X.env)).all (fun x => x.1.isSome)
    && decide (([e] : List Expr).length + ([] : List Keyword).length + (if ([] : List Keyword).isEmpty then 0 else 1) < 30)) = true := by rfl) (h3 : (apos.endLine == cpos.line) = true := by rfl) (h4 : backTo cpos (starEach [e] X.env) = [(false, eval e X.env)] := by rfl) : M1 X o "get" apos e cpos := ⟨h1, h2, h3, h4⟩
section
variable {P : Program} {w : World} {K : PySem.W.Frag} {mg : Str → Option Value} {base : Heap} {a : Ad}

theorem ok_pInit (T : Txt P w K mg base a) : FnOk P w K mg base CX0 1 a.f_pInit a.d_pInit ["self", "address"] (sp_pInit K P w a) := by
  refine T.F_pInit.ok sc_pInit (fun vs H Q E h => by repeat' (first | (obtain ⟨e, _⟩ := h; subst e; rfl) | obtain ⟨_, h⟩ := h)) (fun cdv A outer s H vs Q E hr h => ⟨t_pInit K P w a, ?_, pure_pInit T vs H Q E h⟩)
  have hu := hu_of hr
  exact (pss_cons (ps_fld (pv 0) (pv 1) rfl)
    (pss_cons (ps_fld (pv 0) (pe_gi rfl T.g_FREE) rfl)
    (pss_cons (ps_fld (pv 0) pe_int rfl)
    (pss_one (ps_fld (pv 0) (pe_lst pa_nil) rfl)))))
theorem ok_turn (T : Txt P w K mg base a) : FnOk P w K mg base CX0 1 a.f_turn a.d_turn ["self", "state", "till", "owner"] (sp_turn K P w a) := by
  refine T.F_turn.ok sc_turn (fun vs H Q E h => by repeat' (first | (obtain ⟨e, _⟩ := h; subst e; rfl) | obtain ⟨_, h⟩ := h)) (fun cdv A outer s H vs Q E hr h => ⟨t_turn K P w a, ?_, pure_turn T vs H Q E h⟩)
  have hu := hu_of hr
  exact (pss_cons (ps_fld (pv 0) (pv 1) rfl)
    (pss_cons (ps_fld (pv 0) (pv 2) rfl)
    (pss_one (ps_fld (pv 0) (pv 3) rfl))))
theorem ok_freeAt (T : Txt P w K mg base a) : FnOk P w K mg base CX0 1 a.f_freeAt a.d_freeAt ["self", "now"] (sp_freeAt K P w a) := by
  refine T.F_freeAt.ok sc_freeAt (fun vs H Q E h => by repeat' (first | (obtain ⟨e, _⟩ := h; subst e; rfl) | obtain ⟨_, h⟩ := h)) (fun cdv A outer s H vs Q E hr h => ⟨t_freeAt K P w a, ?_, pure_freeAt T vs H Q E h⟩)
  have hu := hu_of hr
  exact (pss_one (ps_ret (pe_or (pe_cmpR op_eq (pe_fld (pv 0) rfl) (pe_gi rfl T.g_FREE) (nomark _)) (pe_one (pe_cmpR op_le (pe_fld (pv 0) rfl) (pv 1) (nomark _))))))
theorem ok_ownOf (T : Txt P w K mg base a) : FnOk P w K mg base CX0 1 a.f_ownOf a.d_ownOf ["self", "who"] (sp_ownOf K P w a) := by
  refine T.F_ownOf.ok sc_ownOf (fun vs H Q E h => by repeat' (first | (obtain ⟨e, _⟩ := h; subst e; rfl) | obtain ⟨_, h⟩ := h)) (fun cdv A outer s H vs Q E hr h => ⟨t_ownOf K P w a, ?_, pure_ownOf T vs H Q E h⟩)
  have hu := hu_of hr
  exact (pss_one (ps_ret (pe_cmpR (op_eqD hr.units) (pe_fld (pv 0) rfl) (pv 1) (nomark _))))
theorem ok_ownAmong (T : Txt P w K mg base a) : FnOk P w K mg base CX0 2 a.f_ownAmong a.d_ownAmong ["places", "who"] (sp_ownAmong K P w a) := by
  refine T.F_ownAmong.ok sc_ownAmong (fun vs H Q E h => by repeat' (first | (obtain ⟨e, _⟩ := h; subst e; rfl) | obtain ⟨_, h⟩ := h)) (fun cdv A outer s H vs Q E hr h => ⟨t_ownAmong K P w a, ?_, pure_ownAmong T vs H Q E h⟩)
  have hu := hu_of hr
  exact (pss_cons (ps_for PassesOwn.never rfl (pi_list (pv 0)) (pg_name (i := 2) sc_ownAmong.nd rfl (Or.inl rfl)) (pss_one (ps_if (pt_val (pe_meth (pv 2) T.c_Place T.M_ownOf (ok_ownOf T) (hr.mono (by decide)) T.B_ownOf .nil pass0 (pa_cons (pv 1) pa_nil))) (pss_one (ps_ret (pv 2))) pss_nil)))
    (pss_one (ps_ret pe_non)))
theorem ok_oldest (T : Txt P w K mg base a) : FnOk P w K mg base CX0 4 a.f_oldest a.d_oldest ["places", "now"] (sp_oldest K P w a) := by
  obtain ⟨oc, od, kV, doc, pm, an, ct, osl, e, lk, hcd⟩ := T.oldC
  rw [e]
  rw [e] at lk
  refine fn_of lk hcd sc_oldest (fun vs H Q E h => by repeat' (first | (obtain ⟨e, _⟩ := h; subst e; rfl) | obtain ⟨_, h⟩ := h)) fun A outer s H vs Q E hr h => ?_
  have hu := hu_of hr
  have hcode : (cxOf CX0 P w K mg base ["places", "now", "place", "free"] "oldest_free" (defScope s_oldest) a.f_oldest (.ref a.cOld) A outer s H E).nox.env.code = .ref a.cOld := rfl
  have D : PSs (cxOf CX0 P w K mg base ["places", "now", "place", "free"] "oldest_free" (defScope s_oldest) a.f_oldest (.ref a.cOld) A outer s H E).nox (defBody s_oldest) (t_oldest K P w a) := by
    exact (pss_cons (ps_setLc (i := 3) (own := [("place", 2)]) (g := gName 2) (tt := (tB (tMeth a.cPlace "is_free_at" (sp_freeAt K P w a) [] E0 (tVar 2) (tCons (tVar 1) tNil)))) rfl sc_oldest.nd rfl rfl (sw_true rfl rfl rfl (by decide +kernel)) (pi_list (pv 0)) (blkOk_by (own := [("place", 2)]) (N := ["places", "now", "place", "free"]) (sc := defScope s_oldest) (by decide +kernel)) (fun _ _ _ _ _ => pg_name (i := 2) sc_oldest.nd rfl (Or.inl rfl)) (fun _ _ _ _ _ => (pts_one (pt_val (pe_meth (pv 2) T.c_Place T.M_freeAt (ok_freeAt T) (hr.mono (by decide)) T.B_freeAt .nil pass0 (pa_cons (pv 1) pa_nil))))) (fun _ _ _ _ _ => (pv 2)))
    (pss_cons (ps_for PassesOwn.never rfl (pi_list (pv 3)) (pg_name (i := 2) sc_oldest.nd rfl (Or.inl rfl)) (pss_one (ps_if (pt_cmpR (op_eqD hr.units) (pe_fld (pv 2) rfl) (pe_lst pa_nil) (nomark _)) (pss_one (ps_ret (pv 2))) pss_nil)))
    (pss_one (ps_ret (pe_minD (C := a.cPlace) (c := a.cOld) (P := a.pTab) (q := qOld) (pn := "one") (f := "till") rfl (hr.mono (by decide)) (by rfl) T.b_min T.tab hcode (by exact qOld_is) rfl (NdefX.nscope_by (by decide +kernel)) (by decide +kernel) (fun _ => rfl) (fun _ _ _ _ => rfl) T.c_Place T.n_Place_till (fun _ _ _ _ _ => pe_fld (pv 0) rfl) (pv 3) var_mono)))))
  exact ⟨t_oldest K P w a, D.nox, pure_oldest T vs H Q E h⟩
theorem ok_numberOf (T : Txt P w K mg base a) : FnOk P w K mg base CX0 1 a.f_numberOf a.d_numberOf ["digits"] (sp_numberOf K P w a) := by
  refine T.F_numberOf.ok sc_numberOf (fun vs H Q E h => by repeat' (first | (obtain ⟨e, _⟩ := h; subst e; rfl) | obtain ⟨_, h⟩ := h)) (fun cdv A outer s H vs Q E hr h => ⟨t_numberOf K P w a, ?_, pure_numberOf T vs H Q E h⟩)
  have hu := hu_of hr
  exact (pss_cons (ps_set (i := 1) sc_numberOf.nd rfl (Or.inl rfl) pe_int)
    (pss_cons (ps_for PassesOwn.never rfl (pi_list (pv 0)) (pg_name (i := 2) sc_numberOf.nd rfl (Or.inl rfl)) (pss_one (ps_set (i := 1) sc_numberOf.nd rfl (Or.inl rfl) (pe_op op_add (pe_op op_mul (pv 1) pe_int) (pv 2)))))
    (pss_one (ps_ret (pv 1)))))
theorem ok_addressIn (T : Txt P w K mg base a) : FnOk P w K mg base CX0 2 a.f_addressIn a.d_addressIn ["options", "number"] (sp_addressIn K P w a) := by
  refine T.F_addressIn.ok sc_addressIn (fun vs H Q E h => by repeat' (first | (obtain ⟨e, _⟩ := h; subst e; rfl) | obtain ⟨_, h⟩ := h)) (fun cdv A outer s H vs Q E hr h => ⟨t_addressIn K P w a, ?_, pure_addressIn T vs H Q E h⟩)
  have hu := hu_of hr
  exact (pss_cons (ps_if (pt_cmp (pc_din hu (pv 1) (pv 0))) (pss_one (ps_ret (pe_call (ok_numberOf T) (hr.mono (by decide)) (by rfl) T.g_numberOf T.F_numberOf.kp T.B_numberOf .nil pass0 (pa_cons (pe_dget hu (pv 0) (pv 1) (fun _ _ => rfl)) pa_nil)))) pss_nil)
    (pss_one (ps_ret pe_non)))
theorem ok_mInit (T : Txt P w K mg base a) : FnOk P w K mg base CX0 3 a.f_mInit a.d_mInit ["self", "packet", "options"] (sp_mInit K P w a) := by
  refine T.F_mInit.ok sc_mInit (fun vs H Q E h => by repeat' (first | (obtain ⟨e, _⟩ := h; subst e; rfl) | obtain ⟨_, h⟩ := h)) (fun cdv A outer s H vs Q E hr h => ⟨t_mInit K P w a, ?_, pure_mInit T vs H Q E h⟩)
  have hu := hu_of hr
  exact (pss_cons (ps_fld (pv 0) (pe_slice sl_list (pv 1) (po_some pe_int) (po_some pe_int)) rfl)
    (pss_cons (ps_fld (pv 0) (pe_slice sl_list (pv 1) (po_some pe_int) (po_some pe_int)) rfl)
    (pss_cons (ps_fld (pv 0) (pe_call (ok_numberOf T) (hr.mono (by decide)) (by rfl) T.g_numberOf T.F_numberOf.kp T.B_numberOf .nil pass0 (pa_cons (pe_slice sl_list (pv 1) (po_some pe_int) (po_some pe_int)) pa_nil)) rfl)
    (pss_cons (ps_fld (pv 0) (pe_call (ok_numberOf T) (hr.mono (by decide)) (by rfl) T.g_numberOf T.F_numberOf.kp T.B_numberOf .nil pass0 (pa_cons (pe_slice sl_list (pv 1) (po_some pe_int) (po_some pe_int)) pa_nil)) rfl)
    (pss_cons (ps_fld (pv 0) (pe_slice sl_list (pv 1) (po_some pe_int) (po_some pe_int)) rfl)
    (pss_cons (ps_fld (pv 0) (pe_ix ix_list (pe_dget hu (pv 2) (pe_gi rfl T.g_KIND) (fun _ _ => rfl)) pe_int (fun _ _ => rfl)) rfl)
    (pss_cons (ps_fld (pv 0) (pe_call (ok_addressIn T) (hr.mono (by decide)) (by rfl) T.g_addressIn T.F_addressIn.kp T.B_addressIn .nil pass0 (pa_cons (pv 2) (pa_cons (pe_gi rfl T.g_WANTED) pa_nil))) rfl)
    (pss_cons (ps_fld (pv 0) (pe_call (ok_addressIn T) (hr.mono (by decide)) (by rfl) T.g_addressIn T.F_addressIn.kp T.B_addressIn .nil pass0 (pa_cons (pv 2) (pa_cons (pe_gi rfl T.g_SERVER) pa_nil))) rfl)
    (pss_cons (ps_fld (pv 0) (pe_dget1 hu (pv 2) (pe_gi rfl T.g_IDENTIFIER) (m1_get)) rfl)
    (pss_cons (ps_fld (pv 0) (pe_fld (pv 0) rfl) rfl)
    (pss_one (ps_if (pt_cmpR op_isN (pe_fld (pv 0) rfl) pe_non (nomark _)) (pss_one (ps_fld (pv 0) (pe_op op_cat (pe_lst (pa_cons pe_int pa_nil)) (pe_slice sl_list (pe_fld (pv 0) rfl) po_none (po_some pe_int))) rfl)) pss_nil))))))))))))
theorem ok_areRight (T : Txt P w K mg base a) : FnOk P w K mg base CX0 1 a.f_areRight a.d_areRight ["options"] (sp_areRight K P w a) := by
  refine T.F_areRight.ok sc_areRight (fun vs H Q E h => by repeat' (first | (obtain ⟨e, _⟩ := h; subst e; rfl) | obtain ⟨_, h⟩ := h)) (fun cdv A outer s H vs Q E hr h => ⟨t_areRight K P w a, ?_, pure_areRight T vs H Q E h⟩)
  have hu := hu_of hr
  exact (pss_cons (ps_if (PW.pt (pw_or (pt_cmp (pc_din hu (pe_gi rfl T.g_OVERLOAD) (pv 0))) (pw_or1 (pt_cmp (pc_dnotin hu (pe_gi rfl T.g_KIND) (pv 0)))))) (pss_one (ps_ret pe_bl)) pss_nil)
    (pss_cons (ps_for PassesOwn.never rfl (pi_keysW (pe_gr rfl T.g_LENGTHS)) (pg_name (i := 1) sc_areRight.nd rfl (Or.inl rfl)) (pss_one (ps_if (pt_cmp (pc_din hu (pv 1) (pv 0))) (pss_cons (ps_set (i := 2) sc_areRight.nd rfl (Or.inl rfl) (pe_ix ix_kdi (pe_gr rfl T.g_LENGTHS) (pv 1) (fun _ _ => rfl)))
    (pss_one (ps_if (pt_not (pt_chain op_le op_le (pe_ix ix_tup (pv 2) pe_int (fun _ _ => rfl)) (pe_callB call_len_seq (by rfl) T.b_len PySem.boot_len (pa_cons (pe_dget hu (pv 0) (pv 1) (fun _ _ => rfl)) pa_nil)) (pe_ix ix_tup (pv 2) pe_int (fun _ _ => rfl)))) (pss_one (ps_ret pe_bl)) pss_nil))) pss_nil)))
    (pss_one (ps_ret pe_bl))))
theorem ok_readOptions (T : Txt P w K mg base a) : FnOk P w K mg base CX0 1 a.f_readOptions a.d_readOptions ["packet"] (sp_readOptions K P w a) := by
  refine T.F_readOptions.ok sc_readOptions (fun vs H Q E h => by repeat' (first | (obtain ⟨e, _⟩ := h; subst e; rfl) | obtain ⟨_, h⟩ := h)) (fun cdv A outer s H vs Q E hr h => ⟨t_readOptions K P w a, ?_, pure_readOptions T vs H Q E h⟩)
  have hu := hu_of hr
  exact (pss_cons (ps_set (i := 1) sc_readOptions.nd rfl (Or.inl rfl) pe_dnewK)
    (pss_cons (ps_set (i := 2) sc_readOptions.nd rfl (Or.inl rfl) (pe_gi rfl T.g_OPTIONS_AT))
    (pss_cons (ps_while PassesOwn.never (PW.pt (pw_and (pt_cmpR op_lt (pe_op op_add (pv 2) pe_int) (pe_callB call_len_seq (by rfl) T.b_len PySem.boot_len (pa_cons (pv 0) pa_nil)) (nomark _)) (pw_and1 (pt_cmpR op_ne (pe_ix ix_list (pv 0) (pv 2) (fun _ _ => rfl)) (pe_gi rfl T.g_END) (nomark _))))) (pss_cons (ps_set (i := 3) sc_readOptions.nd rfl (Or.inl rfl) (pe_ix ix_list (pv 0) (pv 2) (fun _ _ => rfl)))
    (pss_one (ps_if (pt_cmpR op_eq (pv 3) (pe_gi rfl T.g_FILLING) (nomark _)) (pss_one (ps_aug (i := 2) sc_readOptions.nd rfl (Or.inl rfl) pe_int ip_add)) (pss_one (ps_if (pt_cmp (pc_din hu (pv 3) (pv 1))) (pss_one (ps_ret pe_non)) (pss_cons (ps_set (i := 4) sc_readOptions.nd rfl (Or.inl rfl) (pe_op op_add (pe_op op_add (pv 2) pe_int) (pe_ix ix_list (pv 0) (pe_op op_add (pv 2) pe_int) (fun _ _ => rfl))))
    (pss_cons (ps_dput hu (pv 1) (pv 3) (pe_slice sl_list (pv 0) (po_some (pe_op op_add (pv 2) pe_int)) (po_some (pv 4))) rfl)
    (pss_one (ps_set (i := 2) sc_readOptions.nd rfl (Or.inl rfl) (pv 4)))))))))))
    (pss_cons (ps_if (PW.pt (pw_or (pt_cmpR op_ge (pv 2) (pe_callB call_len_seq (by rfl) T.b_len PySem.boot_len (pa_cons (pv 0) pa_nil)) (nomark _)) (pw_or (pt_cmpR op_ne (pe_ix ix_list (pv 0) (pv 2) (fun _ _ => rfl)) (pe_gi rfl T.g_END) (nomark _)) (pw_or1 (pt_val (pe_callB (cr_anyI rfl) (by rfl) T.b_any (by decide +kernel) (pa_cons (pe_slice sl_list (pv 0) (po_some (pe_op op_add (pv 2) pe_int)) po_none) pa_nil))))))) (pss_one (ps_ret pe_non)) pss_nil)
    (pss_one (ps_ret (pv 1)))))))
theorem ok_readMessage (T : Txt P w K mg base a) : FnOk P w K mg base CX0 5 a.f_readMessage a.d_readMessage ["packet"] (sp_readMessage K P w a) := by
  refine T.F_readMessage.ok sc_readMessage (fun vs H Q E h => by repeat' (first | (obtain ⟨e, _⟩ := h; subst e; rfl) | obtain ⟨_, h⟩ := h)) (fun cdv A outer s H vs Q E hr h => ⟨t_readMessage K P w a, ?_, pure_readMessage T vs H Q E h⟩)
  have hu := hu_of hr
  exact (pss_cons (ps_if (pt_not (pt_chain op_le op_le (pe_gi rfl T.g_SMALLEST) (pe_callB call_len_seq (by rfl) T.b_len PySem.boot_len (pa_cons (pv 0) pa_nil)) (pe_gi rfl T.g_LARGEST))) (pss_one (ps_ret pe_non)) pss_nil)
    (pss_cons (ps_if (PW.pt (pw_or (pt_cmpR (op_neD hr.units) (pe_slice sl_list (pv 0) po_none (po_some pe_int)) (pe_lst (pa_cons pe_int (pa_cons pe_int (pa_cons pe_int pa_nil)))) (nomark _)) (pw_or1 (pt_cmpR (op_neD hr.units) (pe_slice sl_list (pv 0) (po_some (pe_gi rfl T.g_COOKIE_AT)) (po_some (pe_gi rfl T.g_OPTIONS_AT))) (pe_callTy call_list_of (by rfl) T.b_list (by decide +kernel) (pa_cons (pe_gr rfl T.g_COOKIE) pa_nil)) (nomark _))))) (pss_one (ps_ret pe_non)) pss_nil)
    (pss_cons (ps_set (i := 1) sc_readMessage.nd rfl (Or.inl rfl) (pe_call (ok_readOptions T) (hr.mono (by decide)) (by rfl) T.g_readOptions T.F_readOptions.kp T.B_readOptions .nil pass0 (pa_cons (pv 0) pa_nil)))
    (pss_cons (ps_if (PW.pt (pw_or (pt_cmpR op_isN (pv 1) pe_non (nomark _)) (pw_or1 (pt_not (pt_val (pe_call (ok_areRight T) (hr.mono (by decide)) (by rfl) T.g_areRight T.F_areRight.kp T.B_areRight .nil pass0 (pa_cons (pv 1) pa_nil))))))) (pss_one (ps_ret pe_non)) pss_nil)
    (pss_one (ps_ret (pe_make T.k_Message (ok_mInit T) (hr.mono (by decide)) (by rfl) T.g_Message T.B_mInit .nil pass0 (pa_cons (pv 0) (pa_cons (pv 1) pa_nil)))))))))
theorem ok_addressFor (T : Txt P w K mg base a) : FnOk P w K mg base CX0 2 a.f_addressFor a.d_addressFor ["message", "kind", "given"] (sp_addressFor K P w a) := by
  refine T.F_addressFor.ok sc_addressFor (fun vs H Q E h => by repeat' (first | (obtain ⟨e, _⟩ := h; subst e; rfl) | obtain ⟨_, h⟩ := h)) (fun cdv A outer s H vs Q E hr h => ⟨t_addressFor K P w a, ?_, pure_addressFor T vs H Q E h⟩)
  have hu := hu_of hr
  exact (pss_cons (ps_if (pt_cmpR op_ne (pe_fld (pv 0) rfl) pe_int (nomark _)) (pss_one (ps_ret (pe_fld (pv 0) rfl))) pss_nil)
    (pss_cons (ps_if (pt_cmpR op_eq (pv 1) (pe_gi rfl T.g_NAK) (nomark _)) (pss_one (ps_ret (pe_gi rfl T.g_EVERYBODY))) pss_nil)
    (pss_cons (ps_if (pt_cmpR op_ne (pe_fld (pv 0) rfl) pe_int (nomark _)) (pss_one (ps_ret (pe_fld (pv 0) rfl))) pss_nil)
    (pss_cons (ps_if (pt_cmpR op_ge (pe_call (ok_numberOf T) (hr.mono (by decide)) (by rfl) T.g_numberOf T.F_numberOf.kp T.B_numberOf .nil pass0 (pa_cons (pe_fld (pv 0) rfl) pa_nil)) (pe_gi rfl T.g_BROADCAST_FLAGS) (nomark _)) (pss_one (ps_ret (pe_gi rfl T.g_EVERYBODY))) pss_nil)
    (pss_one (ps_ret (pv 2)))))))
theorem ok_fourBytes (T : Txt P w K mg base a) : FnOk P w K mg base CX0 1 a.f_fourBytes a.d_fourBytes ["number"] (sp_fourBytes K P w a) := by
  refine T.F_fourBytes.ok sc_fourBytes (fun vs H Q E h => by repeat' (first | (obtain ⟨e, _⟩ := h; subst e; rfl) | obtain ⟨_, h⟩ := h)) (fun cdv A outer s H vs Q E hr h => ⟨t_fourBytes K P w a, ?_, pure_fourBytes T vs H Q E h⟩)
  have hu := hu_of hr
  exact (pss_one (ps_ret (pe_lst (pa_cons (pe_op op_shr (pv 0) pe_int) (pa_cons (pe_op op_and (pe_op op_shr (pv 0) pe_int) pe_int) (pa_cons (pe_op op_and (pe_op op_shr (pv 0) pe_int) pe_int) (pa_cons (pe_op op_and (pv 0) pe_int) pa_nil)))))))
theorem ok_header (T : Txt P w K mg base a) : FnOk P w K mg base CX0 2 a.f_header a.d_header ["message", "kind", "given"] (sp_header K P w a) := by
  refine T.F_header.ok sc_header (fun vs H Q E h => by repeat' (first | (obtain ⟨e, _⟩ := h; subst e; rfl) | obtain ⟨_, h⟩ := h)) (fun cdv A outer s H vs Q E hr h => ⟨t_header K P w a, ?_, pure_header T vs H Q E h⟩)
  have hu := hu_of hr
  exact (pss_cons (ps_set (i := 3) sc_header.nd rfl (Or.inl rfl) pe_int)
    (pss_cons (ps_if (pt_cmpR op_eq (pv 1) (pe_gi rfl T.g_ACK) (nomark _)) (pss_one (ps_set (i := 3) sc_header.nd rfl (Or.inl rfl) (pe_fld (pv 0) rfl))) pss_nil)
    (pss_cons (ps_set (i := 4) sc_header.nd rfl (Or.inl rfl) (pe_op op_cat (pe_op op_cat (pe_op op_cat (pe_lst (pa_cons pe_int (pa_cons pe_int (pa_cons pe_int (pa_cons pe_int pa_nil))))) (pe_fld (pv 0) rfl)) (pe_lst (pa_cons pe_int (pa_cons pe_int pa_nil)))) (pe_fld (pv 0) rfl)))
    (pss_cons (ps_set (i := 5) sc_header.nd rfl (Or.inl rfl) (pe_op op_cat (pe_op op_cat (pe_op op_cat (pe_call (ok_fourBytes T) (hr.mono (by decide)) (by rfl) T.g_fourBytes T.F_fourBytes.kp T.B_fourBytes .nil pass0 (pa_cons (pv 3) pa_nil)) (pe_call (ok_fourBytes T) (hr.mono (by decide)) (by rfl) T.g_fourBytes T.F_fourBytes.kp T.B_fourBytes .nil pass0 (pa_cons (pv 2) pa_nil))) (pe_call (ok_fourBytes T) (hr.mono (by decide)) (by rfl) T.g_fourBytes T.F_fourBytes.kp T.B_fourBytes .nil pass0 (pa_cons pe_int pa_nil))) (pe_call (ok_fourBytes T) (hr.mono (by decide)) (by rfl) T.g_fourBytes T.F_fourBytes.kp T.B_fourBytes .nil pass0 (pa_cons (pe_fld (pv 0) rfl) pa_nil))))
    (pss_one (ps_ret (pe_op op_cat (pe_op op_cat (pe_op op_cat (pe_op op_cat (pv 4) (pv 5)) (pe_fld (pv 0) rfl)) (pe_op op_rep (pe_lst (pa_cons pe_int pa_nil)) pe_int)) (pe_callTy call_list_of (by rfl) T.b_list (by decide +kernel) (pa_cons (pe_gr rfl T.g_COOKIE) pa_nil)))))))))
theorem ok_numberOption (T : Txt P w K mg base a) : FnOk P w K mg base CX0 2 a.f_numberOption a.d_numberOption ["option", "number"] (sp_numberOption K P w a) := by
  refine T.F_numberOption.ok sc_numberOption (fun vs H Q E h => by repeat' (first | (obtain ⟨e, _⟩ := h; subst e; rfl) | obtain ⟨_, h⟩ := h)) (fun cdv A outer s H vs Q E hr h => ⟨t_numberOption K P w a, ?_, pure_numberOption T vs H Q E h⟩)
  have hu := hu_of hr
  exact (pss_one (ps_ret (pe_op op_cat (pe_lst (pa_cons (pv 0) (pa_cons pe_int pa_nil))) (pe_call (ok_fourBytes T) (hr.mono (by decide)) (by rfl) T.g_fourBytes T.F_fourBytes.kp T.B_fourBytes .nil pass0 (pa_cons (pv 1) pa_nil)))))
theorem ok_optionsOf (T : Txt P w K mg base a) : FnOk P w K mg base CX0 3 a.f_optionsOf a.d_optionsOf ["net", "message", "kind", "given"] (sp_optionsOf K P w a) := by
  refine T.F_optionsOf.ok sc_optionsOf (fun vs H Q E h => by repeat' (first | (obtain ⟨e, _⟩ := h; subst e; rfl) | obtain ⟨_, h⟩ := h)) (fun cdv A outer s H vs Q E hr h => ⟨t_optionsOf K P w a, ?_, pure_optionsOf T vs H Q E h⟩)
  have hu := hu_of hr
  exact (pss_cons (ps_set (i := 4) sc_optionsOf.nd rfl (Or.inl rfl) (pe_op op_cat (pe_lst (pa_cons pe_int (pa_cons pe_int (pa_cons (pv 2) pa_nil)))) (pe_call (ok_numberOption T) (hr.mono (by decide)) (by rfl) T.g_numberOption T.F_numberOption.kp T.B_numberOption .nil pass0 (pa_cons pe_int (pa_cons (pe_fld (pv 0) rfl) pa_nil)))))
    (pss_cons (ps_if (pt_cmpR op_ne (pv 3) pe_int (nomark _)) (pss_cons (ps_expr (pe_bm PySem.F.plainAttrs_list PySem.F.slot_list_extend PySem.F.type_list_extend mt_extend (pv 4) (pa_cons (pe_call (ok_numberOption T) (hr.mono (by decide)) (by rfl) T.g_numberOption T.F_numberOption.kp T.B_numberOption .nil pass0 (pa_cons pe_int (pa_cons (pe_fld (pv 0) rfl) pa_nil))) pa_nil)))
    (pss_cons (ps_expr (pe_bm PySem.F.plainAttrs_list PySem.F.slot_list_extend PySem.F.type_list_extend mt_extend (pv 4) (pa_cons (pe_call (ok_numberOption T) (hr.mono (by decide)) (by rfl) T.g_numberOption T.F_numberOption.kp T.B_numberOption .nil pass0 (pa_cons pe_int (pa_cons (pe_op op_fdiv (pe_fld (pv 0) rfl) pe_int) pa_nil))) pa_nil)))
    (pss_one (ps_expr (pe_bm PySem.F.plainAttrs_list PySem.F.slot_list_extend PySem.F.type_list_extend mt_extend (pv 4) (pa_cons (pe_call (ok_numberOption T) (hr.mono (by decide)) (by rfl) T.g_numberOption T.F_numberOption.kp T.B_numberOption .nil pass0 (pa_cons pe_int (pa_cons (pe_op op_mul (pe_op op_fdiv (pe_fld (pv 0) rfl) pe_int) pe_int) pa_nil))) pa_nil)))))) pss_nil)
    (pss_cons (ps_if (pt_cmpR op_ne (pv 2) (pe_gi rfl T.g_NAK) (nomark _)) (pss_cons (ps_expr (pe_bm PySem.F.plainAttrs_list PySem.F.slot_list_extend PySem.F.type_list_extend mt_extend (pv 4) (pa_cons (pe_call (ok_numberOption T) (hr.mono (by decide)) (by rfl) T.g_numberOption T.F_numberOption.kp T.B_numberOption .nil pass0 (pa_cons pe_int (pa_cons (pe_fld (pv 0) rfl) pa_nil))) pa_nil)))
    (pss_cons (ps_expr (pe_bm PySem.F.plainAttrs_list PySem.F.slot_list_extend PySem.F.type_list_extend mt_extend (pv 4) (pa_cons (pe_call (ok_numberOption T) (hr.mono (by decide)) (by rfl) T.g_numberOption T.F_numberOption.kp T.B_numberOption .nil pass0 (pa_cons pe_int (pa_cons (pe_fld (pv 0) rfl) pa_nil))) pa_nil)))
    (pss_one (ps_expr (pe_bm PySem.F.plainAttrs_list PySem.F.slot_list_extend PySem.F.type_list_extend mt_extend (pv 4) (pa_cons (pe_call (ok_numberOption T) (hr.mono (by decide)) (by rfl) T.g_numberOption T.F_numberOption.kp T.B_numberOption .nil pass0 (pa_cons pe_int (pa_cons (pe_fld (pv 0) rfl) pa_nil))) pa_nil)))))) pss_nil)
    (pss_cons (ps_if (pt_cmpR op_notN (pe_fld (pv 1) rfl) pe_non (nomark _)) (pss_one (ps_expr (pe_bm PySem.F.plainAttrs_list PySem.F.slot_list_extend PySem.F.type_list_extend mt_extend (pv 4) (pa_cons (pe_op op_cat (pe_lst (pa_cons pe_int (pa_cons (pe_callB call_len_seq (by rfl) T.b_len PySem.boot_len (pa_cons (pe_fld (pv 1) rfl) pa_nil)) pa_nil))) (pe_fld (pv 1) rfl)) pa_nil)))) pss_nil)
    (pss_one (ps_ret (pe_op op_cat (pv 4) (pe_lst (pa_cons pe_int pa_nil)))))))))
theorem ok_portFor (T : Txt P w K mg base a) : FnOk P w K mg base CX0 1 a.f_portFor a.d_portFor ["message"] (sp_portFor K P w a) := by
  refine T.F_portFor.ok sc_portFor (fun vs H Q E h => by repeat' (first | (obtain ⟨e, _⟩ := h; subst e; rfl) | obtain ⟨_, h⟩ := h)) (fun cdv A outer s H vs Q E hr h => ⟨t_portFor K P w a, ?_, pure_portFor T vs H Q E h⟩)
  have hu := hu_of hr
  exact (pss_cons (ps_if (pt_cmpR op_ne (pe_fld (pv 0) rfl) pe_int (nomark _)) (pss_one (ps_ret (pe_gi rfl T.g_RELAY_PORT))) pss_nil)
    (pss_one (ps_ret (pe_gi rfl T.g_CLIENT_PORT))))
theorem ok_reply (T : Txt P w K mg base a) : FnOk P w K mg base CX0 4 a.f_reply a.d_reply ["net", "message", "kind", "given"] (sp_reply K P w a) := by
  refine T.F_reply.ok sc_reply (fun vs H Q E h => by repeat' (first | (obtain ⟨e, _⟩ := h; subst e; rfl) | obtain ⟨_, h⟩ := h)) (fun cdv A outer s H vs Q E hr h => ⟨t_reply K P w a, ?_, pure_reply T vs H Q E h⟩)
  have hu := hu_of hr
  exact (pss_cons (ps_set (i := 4) sc_reply.nd rfl (Or.inl rfl) (pe_op op_cat (pe_call (ok_header T) (hr.mono (by decide)) (by rfl) T.g_header T.F_header.kp T.B_header .nil pass0 (pa_cons (pv 1) (pa_cons (pv 2) (pa_cons (pv 3) pa_nil)))) (pe_call (ok_optionsOf T) (hr.mono (by decide)) (by rfl) T.g_optionsOf T.F_optionsOf.kp T.B_optionsOf .nil pass0 (pa_cons (pv 0) (pa_cons (pv 1) (pa_cons (pv 2) (pa_cons (pv 3) pa_nil)))))))
    (pss_cons (ps_expr (pe_bm PySem.F.plainAttrs_list PySem.F.slot_list_extend PySem.F.type_list_extend mt_extend (pv 4) (pa_cons (pe_op op_rep (pe_lst (pa_cons pe_int pa_nil)) (pe_op op_sub (pe_gi rfl T.g_LEAST_BYTES) (pe_callB call_len_seq (by rfl) T.b_len PySem.boot_len (pa_cons (pv 4) pa_nil)))) pa_nil)))
    (pss_one (ps_ret (pe_op op_cat (pe_lst (pa_cons (pe_callB call_len_seq (by rfl) T.b_len PySem.boot_len (pa_cons (pv 4) pa_nil)) (pa_cons (pe_call (ok_addressFor T) (hr.mono (by decide)) (by rfl) T.g_addressFor T.F_addressFor.kp T.B_addressFor .nil pass0 (pa_cons (pv 1) (pa_cons (pv 2) (pa_cons (pv 3) pa_nil)))) (pa_cons (pe_call (ok_portFor T) (hr.mono (by decide)) (by rfl) T.g_portFor T.F_portFor.kp T.B_portFor .nil pass0 (pa_cons (pv 1) pa_nil)) pa_nil)))) (pv 4))))))
theorem ok_lInit (T : Txt P w K mg base a) : FnOk P w K mg base CX0 3 a.f_lInit a.d_lInit ["self", "net"] (sp_lInit K P w a) := by
  refine T.F_lInit.ok sc_lInit (fun vs H Q E h => by repeat' (first | (obtain ⟨e, _⟩ := h; subst e; rfl) | obtain ⟨_, h⟩ := h)) (fun cdv A outer s H vs Q E hr h => ⟨t_lInit K P w a, ?_, pure_lInit T vs H Q E h⟩)
  have hu := hu_of hr
  exact (pss_cons (ps_fld (pv 0) (pv 1) rfl)
    (pss_cons (ps_fld (pv 0) pe_int rfl)
    (pss_one (ps_fld (pv 0) (pe_lc (own := [("address", 2)]) (g := gName 2) (tt := tYes) rfl sc_lInit.nd (pi_range2 (by rfl) T.b_range (pa_cons (pe_fld (pv 1) rfl) (pa_cons (pe_op op_add (pe_fld (pv 1) rfl) pe_int) pa_nil))) (blkOk_by (own := [("address", 2)]) (N := ["self", "net", "address"]) (sc := defScope s_lInit) (by decide +kernel)) (fun _ _ _ _ _ => pg_name (i := 2) sc_lInit.nd rfl (Or.inl rfl)) (fun _ _ _ _ _ => pts_nil) (fun _ _ _ _ _ => (pe_make T.k_Place (ok_pInit T) (hr.mono (by decide)) (by rfl) T.g_Place T.B_pInit .nil pass0 (pa_cons (pv 2) pa_nil)))) rfl))))
theorem ok_tick (T : Txt P w K mg base a) : FnOk P w K mg base CX0 1 a.f_tick a.d_tick ["self", "seconds"] (sp_tick K P w a) := by
  refine T.F_tick.ok sc_tick (fun vs H Q E h => by repeat' (first | (obtain ⟨e, _⟩ := h; subst e; rfl) | obtain ⟨_, h⟩ := h)) (fun cdv A outer s H vs Q E hr h => ⟨t_tick K P w a, ?_, pure_tick T vs H Q E h⟩)
  have hu := hu_of hr
  exact (pss_cons (ps_if (pt_cmpR op_lt (pv 1) (pe_fld (pv 0) rfl) (nomark _)) (pss_one (ps_ret (pe_lst (pa_cons (pe_un un_neg pe_int) pa_nil)))) pss_nil)
    (pss_cons (ps_fld (pv 0) (pv 1) rfl)
    (pss_one (ps_ret (pe_lst (pa_cons pe_int pa_nil))))))
theorem ok_lends (T : Txt P w K mg base a) : FnOk P w K mg base CX0 1 a.f_lends a.d_lends ["self", "address"] (sp_lends K P w a) := by
  refine T.F_lends.ok sc_lends (fun vs H Q E h => by repeat' (first | (obtain ⟨e, _⟩ := h; subst e; rfl) | obtain ⟨_, h⟩ := h)) (fun cdv A outer s H vs Q E hr h => ⟨t_lends K P w a, ?_, pure_lends T vs H Q E h⟩)
  have hu := hu_of hr
  exact (pss_one (ps_ret (pe_chain op_le op_le (pe_fld (pv 0) rfl) (pv 1) (pe_fld (pv 0) rfl))))
theorem ok_placeAt (T : Txt P w K mg base a) : FnOk P w K mg base CX0 2 a.f_placeAt a.d_placeAt ["self", "address"] (sp_placeAt K P w a) := by
  refine T.F_placeAt.ok sc_placeAt (fun vs H Q E h => by repeat' (first | (obtain ⟨e, _⟩ := h; subst e; rfl) | obtain ⟨_, h⟩ := h)) (fun cdv A outer s H vs Q E hr h => ⟨t_placeAt K P w a, ?_, pure_placeAt T vs H Q E h⟩)
  have hu := hu_of hr
  exact (pss_cons (ps_if (PW.pt (pw_or (pt_cmpR op_isN (pv 1) pe_non (nomark _)) (pw_or1 (pt_not (pt_val (pe_meth (pe_fld (pv 0) rfl) T.c_Net T.M_lends (ok_lends T) (hr.mono (by decide)) T.B_lends .nil pass0 (pa_cons (pv 1) pa_nil))))))) (pss_one (ps_ret pe_non)) pss_nil)
    (pss_one (ps_ret (pe_ix ix_list (pe_fld (pv 0) rfl) (pe_op op_sub (pv 1) (pe_fld (pe_fld (pv 0) rfl) rfl)) (fun _ _ => rfl)))))
theorem ok_look (T : Txt P w K mg base a) : FnOk P w K mg base CX0 3 a.f_look a.d_look ["self", "address"] (sp_look K P w a) := by
  refine T.F_look.ok sc_look (fun vs H Q E h => by repeat' (first | (obtain ⟨e, _⟩ := h; subst e; rfl) | obtain ⟨_, h⟩ := h)) (fun cdv A outer s H vs Q E hr h => ⟨t_look K P w a, ?_, pure_look T vs H Q E h⟩)
  have hu := hu_of hr
  exact (pss_cons (ps_set (i := 2) sc_look.nd rfl (Or.inl rfl) (pe_meth (pv 0) T.c_Lender T.M_placeAt (ok_placeAt T) (hr.mono (by decide)) T.B_placeAt .nil pass0 (pa_cons (pv 1) pa_nil)))
    (pss_cons (ps_if (pt_cmpR op_isN (pv 2) pe_non (nomark _)) (pss_one (ps_ret (pe_lst (pa_cons (pe_un un_neg pe_int) pa_nil)))) pss_nil)
    (pss_cons (ps_set (i := 3) sc_look.nd rfl (Or.inl rfl) (pe_callB (call_max2 rfl) (by rfl) T.b_max (by decide +kernel) (pa_cons (pe_op op_sub (pe_fld (pv 2) rfl) (pe_fld (pv 0) rfl)) (pa_cons pe_int pa_nil))))
    (pss_cons (ps_set (i := 4) sc_look.nd rfl (Or.inl rfl) (pe_fld (pv 2) rfl))
    (pss_cons (ps_if (pt_val (pe_meth (pv 2) T.c_Place T.M_freeAt (ok_freeAt T) (hr.mono (by decide)) T.B_freeAt .nil pass0 (pa_cons (pe_fld (pv 0) rfl) pa_nil))) (pss_one (ps_set (i := 4) sc_look.nd rfl (Or.inl rfl) (pe_gi rfl T.g_FREE))) pss_nil)
    (pss_one (ps_ret (pe_op op_cat (pe_lst (pa_cons (pv 4) (pa_cons (pv 3) (pa_cons (pe_callB call_len_seq (by rfl) T.b_len PySem.boot_len (pa_cons (pe_fld (pv 2) rfl) pa_nil)) pa_nil)))) (pe_fld (pv 2) rfl)))))))))
theorem ok_ownAt (T : Txt P w K mg base a) : FnOk P w K mg base CX0 3 a.f_ownAt a.d_ownAt ["self", "address", "who"] (sp_ownAt K P w a) := by
  refine T.F_ownAt.ok sc_ownAt (fun vs H Q E h => by repeat' (first | (obtain ⟨e, _⟩ := h; subst e; rfl) | obtain ⟨_, h⟩ := h)) (fun cdv A outer s H vs Q E hr h => ⟨t_ownAt K P w a, ?_, pure_ownAt T vs H Q E h⟩)
  have hu := hu_of hr
  exact (pss_cons (ps_set (i := 3) sc_ownAt.nd rfl (Or.inl rfl) (pe_meth (pv 0) T.c_Lender T.M_placeAt (ok_placeAt T) (hr.mono (by decide)) T.B_placeAt .nil pass0 (pa_cons (pv 1) pa_nil)))
    (pss_cons (ps_if (PW.pt (pw_or (pt_cmpR op_isN (pv 3) pe_non (nomark _)) (pw_or1 (pt_not (pt_val (pe_meth (pv 3) T.c_Place T.M_ownOf (ok_ownOf T) (hr.mono (by decide)) T.B_ownOf .nil pass0 (pa_cons (pv 2) pa_nil))))))) (pss_one (ps_ret pe_non)) pss_nil)
    (pss_one (ps_ret (pv 3)))))
theorem ok_decline (T : Txt P w K mg base a) : FnOk P w K mg base CX0 4 a.f_decline a.d_decline ["self", "message"] (sp_decline K P w a) := by
  refine T.F_decline.ok sc_decline (fun vs H Q E h => by repeat' (first | (obtain ⟨e, _⟩ := h; subst e; rfl) | obtain ⟨_, h⟩ := h)) (fun cdv A outer s H vs Q E hr h => ⟨t_decline K P w a, ?_, pure_decline T vs H Q E h⟩)
  have hu := hu_of hr
  exact (pss_cons (ps_set (i := 2) sc_decline.nd rfl (Or.inl rfl) (pe_meth (pv 0) T.c_Lender T.M_ownAt (ok_ownAt T) (hr.mono (by decide)) T.B_ownAt .nil pass0 (pa_cons (pe_fld (pv 1) rfl) (pa_cons (pe_fld (pv 1) rfl) pa_nil))))
    (pss_cons (ps_if (PW.pt (pw_or (pt_cmpR op_isN (pv 2) pe_non (nomark _)) (pw_or (pt_cmpR op_eq (pe_fld (pv 2) rfl) (pe_gi rfl T.g_FREE) (nomark _)) (pw_or1 (pt_cmpR op_ne (pe_fld (pv 1) rfl) (pe_fld (pe_fld (pv 0) rfl) rfl) (nomark _)))))) (pss_one ps_retN) pss_nil)
    (pss_one (ps_expr (pe_meth (pv 2) T.c_Place T.M_turn (ok_turn T) (hr.mono (by decide)) T.B_turn .nil pass0 (pa_cons (pe_gi rfl T.g_REFUSED) (pa_cons (pe_op op_add (pe_fld (pv 0) rfl) (pe_gi rfl T.g_REFUSED_SECONDS)) (pa_cons (pe_lst pa_nil) pa_nil))))))))
theorem ok_choose (T : Txt P w K mg base a) : FnOk P w K mg base CX0 5 a.f_choose a.d_choose ["self", "message"] (sp_choose K P w a) := by
  refine T.F_choose.ok sc_choose (fun vs H Q E h => by repeat' (first | (obtain ⟨e, _⟩ := h; subst e; rfl) | obtain ⟨_, h⟩ := h)) (fun cdv A outer s H vs Q E hr h => ⟨t_choose K P w a, ?_, pure_choose T vs H Q E h⟩)
  have hu := hu_of hr
  exact (pss_cons (ps_set (i := 2) sc_choose.nd rfl (Or.inl rfl) (pe_call (ok_ownAmong T) (hr.mono (by decide)) (by rfl) T.g_ownAmong T.F_ownAmong.kp T.B_ownAmong .nil pass0 (pa_cons (pe_fld (pv 0) rfl) (pa_cons (pe_fld (pv 1) rfl) pa_nil))))
    (pss_cons (ps_if (pt_cmpR op_notN (pv 2) pe_non (nomark _)) (pss_one (ps_ret (pv 2))) pss_nil)
    (pss_cons (ps_set (i := 3) sc_choose.nd rfl (Or.inl rfl) (pe_meth (pv 0) T.c_Lender T.M_placeAt (ok_placeAt T) (hr.mono (by decide)) T.B_placeAt .nil pass0 (pa_cons (pe_fld (pv 1) rfl) pa_nil)))
    (pss_cons (ps_if (PW.pt (pw_and (pt_cmpR op_notN (pv 3) pe_non (nomark _)) (pw_and1 (pt_val (pe_meth (pv 3) T.c_Place T.M_freeAt (ok_freeAt T) (hr.mono (by decide)) T.B_freeAt .nil pass0 (pa_cons (pe_fld (pv 0) rfl) pa_nil)))))) (pss_one (ps_ret (pv 3))) pss_nil)
    (pss_one (ps_ret (pe_call (ok_oldest T) (hr.mono (by decide)) (by rfl) T.g_oldest T.F_oldest.kp T.B_oldest .nil pass0 (pa_cons (pe_fld (pv 0) rfl) (pa_cons (pe_fld (pv 0) rfl) pa_nil)))))))))
theorem ok_discover (T : Txt P w K mg base a) : FnOk P w K mg base CX0 6 a.f_discover a.d_discover ["self", "message"] (sp_discover K P w a) := by
  refine T.F_discover.ok sc_discover (fun vs H Q E h => by repeat' (first | (obtain ⟨e, _⟩ := h; subst e; rfl) | obtain ⟨_, h⟩ := h)) (fun cdv A outer s H vs Q E hr h => ⟨t_discover K P w a, ?_, pure_discover T vs H Q E h⟩)
  have hu := hu_of hr
  exact (pss_cons (ps_set (i := 2) sc_discover.nd rfl (Or.inl rfl) (pe_meth (pv 0) T.c_Lender T.M_choose (ok_choose T) (hr.mono (by decide)) T.B_choose .nil pass0 (pa_cons (pv 1) pa_nil)))
    (pss_cons (ps_if (pt_cmpR op_isN (pv 2) pe_non (nomark _)) (pss_one (ps_ret (pe_lst (pa_cons pe_int pa_nil)))) pss_nil)
    (pss_cons (ps_if (PW.pt (pw_or (pt_cmpR op_ne (pe_fld (pv 2) rfl) (pe_gi rfl T.g_LENT) (nomark _)) (pw_or1 (pt_val (pe_meth (pv 2) T.c_Place T.M_freeAt (ok_freeAt T) (hr.mono (by decide)) T.B_freeAt .nil pass0 (pa_cons (pe_fld (pv 0) rfl) pa_nil)))))) (pss_one (ps_expr (pe_meth (pv 2) T.c_Place T.M_turn (ok_turn T) (hr.mono (by decide)) T.B_turn .nil pass0 (pa_cons (pe_gi rfl T.g_OFFERED) (pa_cons (pe_op op_add (pe_fld (pv 0) rfl) (pe_gi rfl T.g_OFFER_SECONDS)) (pa_cons (pe_fld (pv 1) rfl) pa_nil)))))) pss_nil)
    (pss_one (ps_ret (pe_call (ok_reply T) (hr.mono (by decide)) (by rfl) T.g_reply T.F_reply.kp T.B_reply .nil pass0 (pa_cons (pe_fld (pv 0) rfl) (pa_cons (pv 1) (pa_cons (pe_gi rfl T.g_OFFER) (pa_cons (pe_fld (pv 2) rfl) pa_nil))))))))))
theorem ok_release (T : Txt P w K mg base a) : FnOk P w K mg base CX0 4 a.f_release a.d_release ["self", "message"] (sp_release K P w a) := by
  refine T.F_release.ok sc_release (fun vs H Q E h => by repeat' (first | (obtain ⟨e, _⟩ := h; subst e; rfl) | obtain ⟨_, h⟩ := h)) (fun cdv A outer s H vs Q E hr h => ⟨t_release K P w a, ?_, pure_release T vs H Q E h⟩)
  have hu := hu_of hr
  exact (pss_cons (ps_set (i := 2) sc_release.nd rfl (Or.inl rfl) (pe_meth (pv 0) T.c_Lender T.M_ownAt (ok_ownAt T) (hr.mono (by decide)) T.B_ownAt .nil pass0 (pa_cons (pe_fld (pv 1) rfl) (pa_cons (pe_fld (pv 1) rfl) pa_nil))))
    (pss_cons (ps_if (PW.pt (pw_or (pt_cmpR op_isN (pv 2) pe_non (nomark _)) (pw_or (pt_cmpR op_ne (pe_fld (pv 2) rfl) (pe_gi rfl T.g_LENT) (nomark _)) (pw_or1 (pt_cmpR op_ne (pe_fld (pv 1) rfl) (pe_fld (pe_fld (pv 0) rfl) rfl) (nomark _)))))) (pss_one ps_retN) pss_nil)
    (pss_one (ps_expr (pe_meth (pv 2) T.c_Place T.M_turn (ok_turn T) (hr.mono (by decide)) T.B_turn .nil pass0 (pa_cons (pe_gi rfl T.g_FREE) (pa_cons (pe_fld (pv 0) rfl) (pa_cons (pe_fld (pv 1) rfl) pa_nil))))))))
theorem ok_deny (T : Txt P w K mg base a) : FnOk P w K mg base CX0 5 a.f_deny a.d_deny ["self", "message"] (sp_deny K P w a) := by
  refine T.F_deny.ok sc_deny (fun vs H Q E h => by repeat' (first | (obtain ⟨e, _⟩ := h; subst e; rfl) | obtain ⟨_, h⟩ := h)) (fun cdv A outer s H vs Q E hr h => ⟨t_deny K P w a, ?_, pure_deny T vs H Q E h⟩)
  have hu := hu_of hr
  exact (pss_one (ps_ret (pe_call (ok_reply T) (hr.mono (by decide)) (by rfl) T.g_reply T.F_reply.kp T.B_reply .nil pass0 (pa_cons (pe_fld (pv 0) rfl) (pa_cons (pv 1) (pa_cons (pe_gi rfl T.g_NAK) (pa_cons pe_int pa_nil)))))))
theorem ok_lend (T : Txt P w K mg base a) : FnOk P w K mg base CX0 5 a.f_lend a.d_lend ["self", "place", "message"] (sp_lend K P w a) := by
  refine T.F_lend.ok sc_lend (fun vs H Q E h => by repeat' (first | (obtain ⟨e, _⟩ := h; subst e; rfl) | obtain ⟨_, h⟩ := h)) (fun cdv A outer s H vs Q E hr h => ⟨t_lend K P w a, ?_, pure_lend T vs H Q E h⟩)
  have hu := hu_of hr
  exact (pss_cons (ps_expr (pe_meth (pv 1) T.c_Place T.M_turn (ok_turn T) (hr.mono (by decide)) T.B_turn .nil pass0 (pa_cons (pe_gi rfl T.g_LENT) (pa_cons (pe_op op_add (pe_fld (pv 0) rfl) (pe_fld (pe_fld (pv 0) rfl) rfl)) (pa_cons (pe_fld (pv 2) rfl) pa_nil)))))
    (pss_one (ps_ret (pe_call (ok_reply T) (hr.mono (by decide)) (by rfl) T.g_reply T.F_reply.kp T.B_reply .nil pass0 (pa_cons (pe_fld (pv 0) rfl) (pa_cons (pv 2) (pa_cons (pe_gi rfl T.g_ACK) (pa_cons (pe_fld (pv 1) rfl) pa_nil))))))))
theorem ok_reqAgain (T : Txt P w K mg base a) : FnOk P w K mg base CX0 6 a.f_reqAgain a.d_reqAgain ["self", "message"] (sp_reqAgain K P w a) := by
  refine T.F_reqAgain.ok sc_reqAgain (fun vs H Q E h => by repeat' (first | (obtain ⟨e, _⟩ := h; subst e; rfl) | obtain ⟨_, h⟩ := h)) (fun cdv A outer s H vs Q E hr h => ⟨t_reqAgain K P w a, ?_, pure_reqAgain T vs H Q E h⟩)
  have hu := hu_of hr
  exact (pss_cons (ps_if (pt_not (pt_val (pe_meth (pe_fld (pv 0) rfl) T.c_Net T.M_lends (ok_lends T) (hr.mono (by decide)) T.B_lends .nil pass0 (pa_cons (pe_fld (pv 1) rfl) pa_nil)))) (pss_one (ps_ret (pe_lst (pa_cons pe_int pa_nil)))) pss_nil)
    (pss_cons (ps_set (i := 2) sc_reqAgain.nd rfl (Or.inl rfl) (pe_meth (pv 0) T.c_Lender T.M_ownAt (ok_ownAt T) (hr.mono (by decide)) T.B_ownAt .nil pass0 (pa_cons (pe_fld (pv 1) rfl) (pa_cons (pe_fld (pv 1) rfl) pa_nil))))
    (pss_cons (ps_if (PW.pt (pw_or (pt_cmpR op_isN (pv 2) pe_non (nomark _)) (pw_or1 (pt_cmpR op_ne (pe_fld (pv 2) rfl) (pe_gi rfl T.g_LENT) (nomark _))))) (pss_one (ps_ret (pe_meth (pv 0) T.c_Lender T.M_deny (ok_deny T) (hr.mono (by decide)) T.B_deny .nil pass0 (pa_cons (pv 1) pa_nil)))) pss_nil)
    (pss_one (ps_ret (pe_meth (pv 0) T.c_Lender T.M_lend (ok_lend T) (hr.mono (by decide)) T.B_lend .nil pass0 (pa_cons (pv 2) (pa_cons (pv 1) pa_nil))))))))
theorem ok_sharesNet (T : Txt P w K mg base a) : FnOk P w K mg base CX0 1 a.f_sharesNet a.d_sharesNet ["self", "address"] (sp_sharesNet K P w a) := by
  refine T.F_sharesNet.ok sc_sharesNet (fun vs H Q E h => by repeat' (first | (obtain ⟨e, _⟩ := h; subst e; rfl) | obtain ⟨_, h⟩ := h)) (fun cdv A outer s H vs Q E hr h => ⟨t_sharesNet K P w a, ?_, pure_sharesNet T vs H Q E h⟩)
  have hu := hu_of hr
  exact (pss_one (ps_ret (pe_cmpR op_eq (pe_op op_and (pv 1) (pe_fld (pv 0) rfl)) (pe_op op_and (pe_fld (pv 0) rfl) (pe_fld (pv 0) rfl)) (nomark _))))
theorem ok_reqKnown (T : Txt P w K mg base a) : FnOk P w K mg base CX0 6 a.f_reqKnown a.d_reqKnown ["self", "message"] (sp_reqKnown K P w a) := by
  refine T.F_reqKnown.ok sc_reqKnown (fun vs H Q E h => by repeat' (first | (obtain ⟨e, _⟩ := h; subst e; rfl) | obtain ⟨_, h⟩ := h)) (fun cdv A outer s H vs Q E hr h => ⟨t_reqKnown K P w a, ?_, pure_reqKnown T vs H Q E h⟩)
  have hu := hu_of hr
  exact (pss_cons (ps_if (pt_cmpR op_ne (pe_fld (pv 1) rfl) pe_int (nomark _)) (pss_one (ps_ret (pe_lst (pa_cons pe_int pa_nil)))) pss_nil)
    (pss_cons (ps_if (PW.pt (pw_and (pt_cmpR op_eq (pe_fld (pv 1) rfl) pe_int (nomark _)) (pw_and1 (pt_not (pt_val (pe_meth (pe_fld (pv 0) rfl) T.c_Net T.M_sharesNet (ok_sharesNet T) (hr.mono (by decide)) T.B_sharesNet .nil pass0 (pa_cons (pe_fld (pv 1) rfl) pa_nil))))))) (pss_one (ps_ret (pe_meth (pv 0) T.c_Lender T.M_deny (ok_deny T) (hr.mono (by decide)) T.B_deny .nil pass0 (pa_cons (pv 1) pa_nil)))) pss_nil)
    (pss_cons (ps_if (pt_not (pt_val (pe_meth (pe_fld (pv 0) rfl) T.c_Net T.M_lends (ok_lends T) (hr.mono (by decide)) T.B_lends .nil pass0 (pa_cons (pe_fld (pv 1) rfl) pa_nil)))) (pss_one (ps_ret (pe_lst (pa_cons pe_int pa_nil)))) pss_nil)
    (pss_cons (ps_set (i := 2) sc_reqKnown.nd rfl (Or.inl rfl) (pe_meth (pv 0) T.c_Lender T.M_ownAt (ok_ownAt T) (hr.mono (by decide)) T.B_ownAt .nil pass0 (pa_cons (pe_fld (pv 1) rfl) (pa_cons (pe_fld (pv 1) rfl) pa_nil))))
    (pss_cons (ps_if (pt_cmpR op_notN (pv 2) pe_non (nomark _)) (pss_one (ps_ret (pe_meth (pv 0) T.c_Lender T.M_lend (ok_lend T) (hr.mono (by decide)) T.B_lend .nil pass0 (pa_cons (pv 2) (pa_cons (pv 1) pa_nil))))) pss_nil)
    (pss_cons (ps_if (pt_cmpR op_notN (pe_call (ok_ownAmong T) (hr.mono (by decide)) (by rfl) T.g_ownAmong T.F_ownAmong.kp T.B_ownAmong .nil pass0 (pa_cons (pe_fld (pv 0) rfl) (pa_cons (pe_fld (pv 1) rfl) pa_nil))) pe_non (nomark _)) (pss_one (ps_ret (pe_meth (pv 0) T.c_Lender T.M_deny (ok_deny T) (hr.mono (by decide)) T.B_deny .nil pass0 (pa_cons (pv 1) pa_nil)))) pss_nil)
    (pss_one (ps_ret (pe_lst (pa_cons pe_int pa_nil))))))))))
theorem ok_reqOffered (T : Txt P w K mg base a) : FnOk P w K mg base CX0 6 a.f_reqOffered a.d_reqOffered ["self", "message"] (sp_reqOffered K P w a) := by
  refine T.F_reqOffered.ok sc_reqOffered (fun vs H Q E h => by repeat' (first | (obtain ⟨e, _⟩ := h; subst e; rfl) | obtain ⟨_, h⟩ := h)) (fun cdv A outer s H vs Q E hr h => ⟨t_reqOffered K P w a, ?_, pure_reqOffered T vs H Q E h⟩)
  have hu := hu_of hr
  exact (pss_cons (ps_if (PW.pt (pw_or (pt_cmpR op_isN (pe_fld (pv 1) rfl) pe_non (nomark _)) (pw_or1 (pt_cmpR op_ne (pe_fld (pv 1) rfl) pe_int (nomark _))))) (pss_one (ps_ret (pe_lst (pa_cons pe_int pa_nil)))) pss_nil)
    (pss_cons (ps_set (i := 2) sc_reqOffered.nd rfl (Or.inl rfl) (pe_meth (pv 0) T.c_Lender T.M_ownAt (ok_ownAt T) (hr.mono (by decide)) T.B_ownAt .nil pass0 (pa_cons (pe_fld (pv 1) rfl) (pa_cons (pe_fld (pv 1) rfl) pa_nil))))
    (pss_cons (ps_if (pt_cmpR op_isN (pv 2) pe_non (nomark _)) (pss_one (ps_ret (pe_meth (pv 0) T.c_Lender T.M_deny (ok_deny T) (hr.mono (by decide)) T.B_deny .nil pass0 (pa_cons (pv 1) pa_nil)))) pss_nil)
    (pss_one (ps_ret (pe_meth (pv 0) T.c_Lender T.M_lend (ok_lend T) (hr.mono (by decide)) T.B_lend .nil pass0 (pa_cons (pv 2) (pa_cons (pv 1) pa_nil))))))))
theorem ok_takeBack (T : Txt P w K mg base a) : FnOk P w K mg base CX0 3 a.f_takeBack a.d_takeBack ["self", "who"] (sp_takeBack K P w a) := by
  refine T.F_takeBack.ok sc_takeBack (fun vs H Q E h => by repeat' (first | (obtain ⟨e, _⟩ := h; subst e; rfl) | obtain ⟨_, h⟩ := h)) (fun cdv A outer s H vs Q E hr h => ⟨t_takeBack K P w a, ?_, pure_takeBack T vs H Q E h⟩)
  have hu := hu_of hr
  exact (pss_cons (ps_set (i := 2) sc_takeBack.nd rfl (Or.inl rfl) (pe_call (ok_ownAmong T) (hr.mono (by decide)) (by rfl) T.g_ownAmong T.F_ownAmong.kp T.B_ownAmong .nil pass0 (pa_cons (pe_fld (pv 0) rfl) (pa_cons (pv 1) pa_nil))))
    (pss_one (ps_if (PW.pt (pw_and (pt_cmpR op_notN (pv 2) pe_non (nomark _)) (pw_and1 (pt_cmpR op_eq (pe_fld (pv 2) rfl) (pe_gi rfl T.g_OFFERED) (nomark _))))) (pss_one (ps_expr (pe_meth (pv 2) T.c_Place T.M_turn (ok_turn T) (hr.mono (by decide)) T.B_turn .nil pass0 (pa_cons (pe_gi rfl T.g_FREE) (pa_cons (pe_fld (pv 0) rfl) (pa_cons (pv 1) pa_nil)))))) pss_nil)))
theorem ok_request (T : Txt P w K mg base a) : FnOk P w K mg base CX0 7 a.f_request a.d_request ["self", "message"] (sp_request K P w a) := by
  refine T.F_request.ok sc_request (fun vs H Q E h => by repeat' (first | (obtain ⟨e, _⟩ := h; subst e; rfl) | obtain ⟨_, h⟩ := h)) (fun cdv A outer s H vs Q E hr h => ⟨t_request K P w a, ?_, pure_request T vs H Q E h⟩)
  have hu := hu_of hr
  exact (pss_cons (ps_if (PW.pt (pw_and (pt_cmpR op_isN (pe_fld (pv 1) rfl) pe_non (nomark _)) (pw_and1 (pt_cmpR op_isN (pe_fld (pv 1) rfl) pe_non (nomark _))))) (pss_one (ps_ret (pe_meth (pv 0) T.c_Lender T.M_reqAgain (ok_reqAgain T) (hr.mono (by decide)) T.B_reqAgain .nil pass0 (pa_cons (pv 1) pa_nil)))) pss_nil)
    (pss_cons (ps_if (pt_cmpR op_isN (pe_fld (pv 1) rfl) pe_non (nomark _)) (pss_one (ps_ret (pe_meth (pv 0) T.c_Lender T.M_reqKnown (ok_reqKnown T) (hr.mono (by decide)) T.B_reqKnown .nil pass0 (pa_cons (pv 1) pa_nil)))) pss_nil)
    (pss_cons (ps_if (pt_cmpR op_eq (pe_fld (pv 1) rfl) (pe_fld (pe_fld (pv 0) rfl) rfl) (nomark _)) (pss_one (ps_ret (pe_meth (pv 0) T.c_Lender T.M_reqOffered (ok_reqOffered T) (hr.mono (by decide)) T.B_reqOffered .nil pass0 (pa_cons (pv 1) pa_nil)))) pss_nil)
    (pss_cons (ps_expr (pe_meth (pv 0) T.c_Lender T.M_takeBack (ok_takeBack T) (hr.mono (by decide)) T.B_takeBack .nil pass0 (pa_cons (pe_fld (pv 1) rfl) pa_nil)))
    (pss_one (ps_ret (pe_lst (pa_cons pe_int pa_nil))))))))
theorem ok_handle (T : Txt P w K mg base a) : FnOk P w K mg base CX0 8 a.f_handle a.d_handle ["self", "message"] (sp_handle K P w a) := by
  refine T.F_handle.ok sc_handle (fun vs H Q E h => by repeat' (first | (obtain ⟨e, _⟩ := h; subst e; rfl) | obtain ⟨_, h⟩ := h)) (fun cdv A outer s H vs Q E hr h => ⟨t_handle K P w a, ?_, pure_handle T vs H Q E h⟩)
  have hu := hu_of hr
  exact (pss_cons (ps_if (pt_cmpR op_eq (pe_fld (pv 1) rfl) (pe_gi rfl T.g_DISCOVER) (nomark _)) (pss_one (ps_ret (pe_meth (pv 0) T.c_Lender T.M_discover (ok_discover T) (hr.mono (by decide)) T.B_discover .nil pass0 (pa_cons (pv 1) pa_nil)))) pss_nil)
    (pss_cons (ps_if (pt_cmpR op_eq (pe_fld (pv 1) rfl) (pe_gi rfl T.g_REQUEST) (nomark _)) (pss_one (ps_ret (pe_meth (pv 0) T.c_Lender T.M_request (ok_request T) (hr.mono (by decide)) T.B_request .nil pass0 (pa_cons (pv 1) pa_nil)))) pss_nil)
    (pss_cons (ps_if (pt_cmpR op_eq (pe_fld (pv 1) rfl) (pe_gi rfl T.g_DECLINE) (nomark _)) (pss_one (ps_expr (pe_meth (pv 0) T.c_Lender T.M_decline (ok_decline T) (hr.mono (by decide)) T.B_decline .nil pass0 (pa_cons (pv 1) pa_nil)))) (pss_one (ps_if (pt_cmpR op_eq (pe_fld (pv 1) rfl) (pe_gi rfl T.g_RELEASE) (nomark _)) (pss_one (ps_expr (pe_meth (pv 0) T.c_Lender T.M_release (ok_release T) (hr.mono (by decide)) T.B_release .nil pass0 (pa_cons (pv 1) pa_nil)))) (pss_one (ps_if (PW.pt (pw_and (pt_cmpR op_eq (pe_fld (pv 1) rfl) (pe_gi rfl T.g_INFORM) (nomark _)) (pw_and1 (pt_cmpR op_ne (pe_fld (pv 1) rfl) pe_int (nomark _))))) (pss_one (ps_ret (pe_call (ok_reply T) (hr.mono (by decide)) (by rfl) T.g_reply T.F_reply.kp T.B_reply .nil pass0 (pa_cons (pe_fld (pv 0) rfl) (pa_cons (pv 1) (pa_cons (pe_gi rfl T.g_ACK) (pa_cons pe_int pa_nil))))))) pss_nil)))))
    (pss_one (ps_ret (pe_lst (pa_cons pe_int pa_nil)))))))
theorem ok_nInit (T : Txt P w K mg base a) : FnOk P w K mg base CX0 1 a.f_nInit a.d_nInit ["self", "numbers"] (sp_nInit K P w a) := by
  refine T.F_nInit.ok sc_nInit (fun vs H Q E h => by repeat' (first | (obtain ⟨e, _⟩ := h; subst e; rfl) | obtain ⟨_, h⟩ := h)) (fun cdv A outer s H vs Q E hr h => ⟨t_nInit K P w a, ?_, pure_nInit T vs H Q E h⟩)
  have hu := hu_of hr
  exact (pss_cons (ps_fld (pv 0) (pe_ix ix_list (pv 1) pe_int (fun _ _ => rfl)) rfl)
    (pss_cons (ps_fld (pv 0) (pe_ix ix_list (pv 1) pe_int (fun _ _ => rfl)) rfl)
    (pss_cons (ps_fld (pv 0) (pe_ix ix_list (pv 1) pe_int (fun _ _ => rfl)) rfl)
    (pss_cons (ps_fld (pv 0) (pe_ix ix_list (pv 1) pe_int (fun _ _ => rfl)) rfl)
    (pss_cons (ps_fld (pv 0) (pe_ix ix_list (pv 1) pe_int (fun _ _ => rfl)) rfl)
    (pss_cons (ps_fld (pv 0) (pe_ix ix_list (pv 1) pe_int (fun _ _ => rfl)) rfl)
    (pss_cons (ps_fld (pv 0) (pe_ix ix_list (pv 1) pe_int (fun _ _ => rfl)) rfl)
    (pss_one (ps_fld (pv 0) (pe_op op_sub (pe_op op_add (pe_fld (pv 0) rfl) (pe_fld (pv 0) rfl)) pe_int) rfl)))))))))
theorem ok_isMask (T : Txt P w K mg base a) : FnOk P w K mg base CX0 1 a.f_isMask a.d_isMask ["mask"] (sp_isMask K P w a) := by
  refine T.F_isMask.ok sc_isMask (fun vs H Q E h => by repeat' (first | (obtain ⟨e, _⟩ := h; subst e; rfl) | obtain ⟨_, h⟩ := h)) (fun cdv A outer s H vs Q E hr h => ⟨t_isMask K P w a, ?_, pure_isMask T vs H Q E h⟩)
  have hu := hu_of hr
  exact (pss_cons (ps_set (i := 1) sc_isMask.nd rfl (Or.inl rfl) (pe_op op_sub (pe_gi rfl T.g_ALL_ONES) (pv 0)))
    (pss_one (ps_ret (pe_cmpR op_eq (pe_op op_and (pv 1) (pe_op op_add (pv 1) pe_int)) pe_int (nomark _)))))
theorem ok_isRight (T : Txt P w K mg base a) : FnOk P w K mg base CX0 2 a.f_isRight a.d_isRight ["self"] (sp_isRight K P w a) := by
  refine T.F_isRight.ok sc_isRight (fun vs H Q E h => by repeat' (first | (obtain ⟨e, _⟩ := h; subst e; rfl) | obtain ⟨_, h⟩ := h)) (fun cdv A outer s H vs Q E hr h => ⟨t_isRight K P w a, ?_, pure_isRight T vs H Q E h⟩)
  have hu := hu_of hr
  exact (pss_cons (ps_if (PW.pt (pw_or (pt_cmpR op_eq (pe_fld (pv 0) rfl) pe_int (nomark _)) (pw_or (pt_cmpR op_eq (pe_fld (pv 0) rfl) pe_int (nomark _)) (pw_or1 (pt_not (pt_val (pe_call (ok_isMask T) (hr.mono (by decide)) (by rfl) T.g_isMask T.F_isMask.kp T.B_isMask .nil pass0 (pa_cons (pe_fld (pv 0) rfl) pa_nil)))))))) (pss_one (ps_ret pe_bl)) pss_nil)
    (pss_cons (ps_if (pt_not (pt_chain op_le op_le pe_int (pe_fld (pv 0) rfl) (pe_gi rfl T.g_MOST_PLACES))) (pss_one (ps_ret pe_bl)) pss_nil)
    (pss_cons (ps_if (pt_not (pt_chain op_le op_le (pe_gi rfl T.g_SHORTEST_LOAN) (pe_fld (pv 0) rfl) (pe_gi rfl T.g_LONGEST_LOAN))) (pss_one (ps_ret pe_bl)) pss_nil)
    (pss_cons (ps_if (PW.pt (pw_or (pt_cmpR op_gt (pe_fld (pv 0) rfl) (pe_gi rfl T.g_ALL_ONES) (nomark _)) (pw_or1 (pt_val (pe_meth (pv 0) T.c_Net T.M_lends (ok_lends T) (hr.mono (by decide)) T.B_lends .nil pass0 (pa_cons (pe_fld (pv 0) rfl) pa_nil)))))) (pss_one (ps_ret pe_bl)) pss_nil)
    (pss_one (ps_ret (pe_and (pe_meth (pv 0) T.c_Net T.M_sharesNet (ok_sharesNet T) (hr.mono (by decide)) T.B_sharesNet .nil pass0 (pa_cons (pe_fld (pv 0) rfl) pa_nil)) (pe_one (pe_meth (pv 0) T.c_Net T.M_sharesNet (ok_sharesNet T) (hr.mono (by decide)) T.B_sharesNet .nil pass0 (pa_cons (pe_fld (pv 0) rfl) pa_nil))))))))))
theorem ok_dInit (T : Txt P w K mg base a) : FnOk P w K mg base CX0 1 a.f_dInit a.d_dInit ["self"] (sp_dInit K P w a) := by
  refine T.F_dInit.ok sc_dInit (fun vs H Q E h => by repeat' (first | (obtain ⟨e, _⟩ := h; subst e; rfl) | obtain ⟨_, h⟩ := h)) (fun cdv A outer s H vs Q E hr h => ⟨t_dInit K P w a, ?_, pure_dInit T vs H Q E h⟩)
  have hu := hu_of hr
  exact (pss_one (ps_fld (pv 0) pe_non rfl))
theorem ok_begin (T : Txt P w K mg base a) : FnOk P w K mg base CX0 5 a.f_begin a.d_begin ["self", "numbers"] (sp_begin K P w a) := by
  refine T.F_begin.ok sc_begin (fun vs H Q E h => by repeat' (first | (obtain ⟨e, _⟩ := h; subst e; rfl) | obtain ⟨_, h⟩ := h)) (fun cdv A outer s H vs Q E hr h => ⟨t_begin K P w a, ?_, pure_begin T vs H Q E h⟩)
  have hu := hu_of hr
  exact (pss_cons (ps_set (i := 2) sc_begin.nd rfl (Or.inl rfl) (pe_make T.k_Net (ok_nInit T) (hr.mono (by decide)) (by rfl) T.g_Net T.B_nInit .nil pass0 (pa_cons (pv 1) pa_nil)))
    (pss_cons (ps_if (pt_not (pt_val (pe_meth0 (pv 2) T.c_Net T.M_isRight (ok_isRight T) (hr.mono (by decide)) T.B_isRight .nil pass0))) (pss_cons (ps_fld (pv 0) pe_non rfl)
    (pss_one (ps_ret (pe_lst (pa_cons (pe_un un_neg pe_int) pa_nil))))) pss_nil)
    (pss_cons (ps_fld (pv 0) (pe_make T.k_Lender (ok_lInit T) (hr.mono (by decide)) (by rfl) T.g_Lender T.B_lInit .nil pass0 (pa_cons (pv 2) pa_nil)) rfl)
    (pss_one (ps_ret (pe_lst (pa_cons pe_int pa_nil)))))))
theorem ok_take (T : Txt P w K mg base a) : FnOk P w K mg base CX0 9 a.f_take a.d_take ["self", "packet"] (sp_take K P w a) := by
  refine T.F_take.ok sc_take (fun vs H Q E h => by repeat' (first | (obtain ⟨e, _⟩ := h; subst e; rfl) | obtain ⟨_, h⟩ := h)) (fun cdv A outer s H vs Q E hr h => ⟨t_take K P w a, ?_, pure_take T vs H Q E h⟩)
  have hu := hu_of hr
  exact (pss_cons (ps_if (pt_cmpR op_gt (pe_callB call_len_seq (by rfl) T.b_len PySem.boot_len (pa_cons (pv 1) pa_nil)) (pe_gi rfl T.g_MOST_BYTES) (nomark _)) (pss_one (ps_ret (pe_lst (pa_cons (pe_un un_neg pe_int) pa_nil)))) pss_nil)
    (pss_cons (ps_set (i := 2) sc_take.nd rfl (Or.inl rfl) (pe_call (ok_readMessage T) (hr.mono (by decide)) (by rfl) T.g_readMessage T.F_readMessage.kp T.B_readMessage .nil pass0 (pa_cons (pv 1) pa_nil)))
    (pss_cons (ps_if (pt_cmpR op_isN (pv 2) pe_non (nomark _)) (pss_one (ps_ret (pe_lst (pa_cons (pe_un un_neg pe_int) pa_nil)))) pss_nil)
    (pss_one (ps_ret (pe_meth (pe_fld (pv 0) rfl) T.c_Lender T.M_handle (ok_handle T) (hr.mono (by decide)) T.B_handle .nil pass0 (pa_cons (pv 2) pa_nil)))))))
theorem ok_respond (T : Txt P w K mg base a) : FnOk P w K mg base CX0 10 a.f_respond a.d_respond ["self", "call", "given"] (sp_respond K P w a) := by
  refine T.F_respond.ok sc_respond (fun vs H Q E h => by repeat' (first | (obtain ⟨e, _⟩ := h; subst e; rfl) | obtain ⟨_, h⟩ := h)) (fun cdv A outer s H vs Q E hr h => ⟨t_respond K P w a, ?_, pure_respond T vs H Q E h⟩)
  have hu := hu_of hr
  exact (pss_cons (ps_if (pt_cmpR op_eq (pv 1) (pe_gi rfl T.g_OPEN) (nomark _)) (pss_one (ps_ret (pe_meth (pv 0) T.c_Desk T.M_begin (ok_begin T) (hr.mono (by decide)) T.B_begin .nil pass0 (pa_cons (pv 2) pa_nil)))) pss_nil)
    (pss_cons (ps_if (pt_cmpR op_isN (pe_fld (pv 0) rfl) pe_non (nomark _)) (pss_one (ps_ret (pe_lst (pa_cons (pe_un un_neg pe_int) pa_nil)))) pss_nil)
    (pss_cons (ps_if (pt_cmpR op_eq (pv 1) (pe_gi rfl T.g_PACKET) (nomark _)) (pss_one (ps_ret (pe_meth (pv 0) T.c_Desk T.M_take (ok_take T) (hr.mono (by decide)) T.B_take .nil pass0 (pa_cons (pv 2) pa_nil)))) pss_nil)
    (pss_cons (ps_if (pt_cmpR op_eq (pv 1) (pe_gi rfl T.g_TICK) (nomark _)) (pss_one (ps_ret (pe_meth (pe_fld (pv 0) rfl) T.c_Lender T.M_tick (ok_tick T) (hr.mono (by decide)) T.B_tick .nil pass0 (pa_cons (pe_ix ix_list (pv 2) pe_int (fun _ _ => rfl)) pa_nil)))) pss_nil)
    (pss_one (ps_ret (pe_meth (pe_fld (pv 0) rfl) T.c_Lender T.M_look (ok_look T) (hr.mono (by decide)) T.B_look .nil pass0 (pa_cons (pe_ix ix_list (pv 2) pe_int (fun _ _ => rfl)) pa_nil))))))))
theorem ok_answers (T : Txt P w K mg base a) : FnOk P w K mg base CX0 11 a.f_answers a.d_answers ["calls"] (sp_answers K P w a) := by
  refine T.F_answers.ok sc_answers (fun vs H Q E h => by repeat' (first | (obtain ⟨e, _⟩ := h; subst e; rfl) | obtain ⟨_, h⟩ := h)) (fun cdv A outer s H vs Q E hr h => ⟨t_answersA K P w a, ?_, pure_answers T vs H Q E h⟩)
  have hu := hu_of hr
  exact (pss_cons (ps_set (i := 1) sc_answers.nd rfl (Or.inl rfl) (pe_make0 T.k_Desk (ok_dInit T) (hr.mono (by decide)) (by rfl) T.g_Desk T.B_dInit .nil pass0))
    (pss_cons (ps_set (i := 2) sc_answers.nd rfl (Or.inl rfl) (pe_lst pa_nil))
    (pss_cons (ps_set (i := 3) sc_answers.nd rfl (Or.inl rfl) pe_int)
    (pss_cons (ps_while PassesOwn.never (pt_cmpR op_lt (pv 3) (pe_callB call_len_seq (by rfl) T.b_len PySem.boot_len (pa_cons (pv 0) pa_nil)) (nomark _)) (pss_cons (ps_set (i := 4) sc_answers.nd rfl (Or.inl rfl) (pe_ix ix_list (pv 0) (pv 3) (fun _ _ => rfl)))
    (pss_cons (ps_set (i := 5) sc_answers.nd rfl (Or.inl rfl) (pe_op op_add (pv 3) pe_int))
    (pss_cons (ps_set (i := 6) sc_answers.nd rfl (Or.inl rfl) (pe_op op_add (pv 3) pe_int))
    (pss_cons (ps_if (PW.pt (pw_or (pt_cmpR op_eq (pv 4) (pe_gi rfl T.g_OPEN) (nomark _)) (pw_or1 (pt_cmpR op_eq (pv 4) (pe_gi rfl T.g_PACKET) (nomark _))))) (pss_cons (ps_set (i := 5) sc_answers.nd rfl (Or.inl rfl) (pe_op op_add (pv 3) pe_int))
    (pss_one (ps_set (i := 6) sc_answers.nd rfl (Or.inl rfl) (pe_op op_add (pv 5) (pe_ix ix_list (pv 0) (pe_op op_add (pv 3) pe_int) (fun _ _ => rfl)))))) pss_nil)
    (pss_cons (ps_set (i := 7) sc_answers.nd rfl (Or.inl rfl) (pe_meth (pv 1) T.c_Desk T.M_respond (fn_aside (ok_respond T)) (hr.mono (by decide)) T.B_respond .nil pass0 (pa_cons (pv 4) (pa_cons (pe_slice sl_list (pv 0) (po_some (pv 5)) (po_some (pv 6))) pa_nil))))
    (pss_cons (ps_expr (pe_bm PySem.F.plainAttrs_list PySem.F.slot_list_append PySem.F.type_list_append mt_append (pv 2) (pa_cons (pe_callB call_len_seq (by rfl) T.b_len PySem.boot_len (pa_cons (pv 7) pa_nil)) pa_nil)))
    (pss_cons (ps_expr (pe_bm PySem.F.plainAttrs_list PySem.F.slot_list_extend PySem.F.type_list_extend mt_extend (pv 2) (pa_cons (pv 7) pa_nil)))
    (pss_one (ps_set (i := 3) sc_answers.nd rfl (Or.inl rfl) (pv 6)))))))))))
    (pss_one (ps_ret (pv 2)))))))
end
end Lp
namespace Lp
open PySem PySem.Spec PyProof.Rows L2
open PySem.W (WData Codec OpenSpec Well WellAll ReadsW ReadsAllW)
/-! ### the end of a Spec row whose text makes code objects: one table is followed -/
/-- the heap of the arguments, and the table at P -/
def withTab (H : Hp) (P : Addr) : Hp := fun b => if b = P then some (.tbl #[]) else H b
theorem withTab_at {H : Hp} {P : Addr} : withTab H P P = some (.tbl #[]) := if_pos rfl
theorem withTab_ne {H : Hp} {P b : Addr} (h : b ≠ P) : withTab H P b = H b := if_neg h
/-- what the head tells of the def's code object c and its table P at the heap h -/
structure Tabled (K : PySem.W.Frag) (h : Heap) (c P : Addr) : Prop where
  code : PySem.W.CodeHd h c P
  tab : h.get? P = some { cls := .none, data := .fields #[] }
  free : K.lookup P = none
theorem spec_callT {P : Program} {w : World} {K : PySem.W.Frag} {mg mb : Str → Option Value} {k : Nat} {fa c T : Addr} {fd : FuncData} {ps : List Str} {sp : Sp} {s₁ : Shared} {vals : List Value} {ds : List WData} {R : PySem.W.WRecords} {cl : Str → Option Addr} {d0 : WData}
    (KX : K.In s₁.heap) (hns : s₁.heap.Ns mainGlobals mg) (hb : s₁.heap.Ns builtinsNs mb) (hbb : ∀ x : Str, x ≠ "__name__" → mb x = bootBuiltins x) (hlim : s₁.heap.NoLimit) (hg : s₁.gens = #[]) (C : Tabled K s₁.heap c T)
    (hbm : ∃ (bm : Addr) (ob : Obj), mg "__builtins__" = some (.ref bm) ∧ bm ≠ builtinsNs ∧ s₁.heap.get? bm = some ob ∧ ob.cls = .type "module" ∧ ob.dict = some builtinsNs ∧ ob.data = .plain)
    (hwl : WellAll w.params s₁.heap vals ds) (hpl : plWs ds = true) (hwt : ∀ d ∈ ds, d.weight ≤ 1048576) (hr : Room k callerA)
    (F : ∀ base : Heap, K.In base → base.Ns mainGlobals mg → LamX.TabB base mg c T → FnOk P w K mg base CX0 k fa fd ps sp) (hbind : ∀ (s : Shared) (us : List Value), us.length = ps.length → BindsTo s fd ⟨us, []⟩ (ps.zip us)) (hlen : ds.length = ps.length)
    (hsp : ∀ (H0 H : Hp) (xs : List V), (∀ b o, H0 b = some o → H b = some o) → H T = some (.tbl #[]) → DwAll K H0 xs ds → sp xs H (fun v H' => Dw K H' v d0) fun _ _ _ => False) :
    codeAny (model P w) callerA (.call (.ref fa) ⟨vals, []⟩) (fun r s' => ∃ u as, r = .ok (.ret u) ∧ ReadsW R cl s'.heap u d0 as ∧ OldK s₁.heap s'.heap ∧ s'.os = s₁.os ∧ AllBare s'.gens) s₁ := by
  obtain ⟨A, ho, ar⟩ := area_all ds vals hwl hpl hwt
  have hO : OnlyF (argH K s₁.heap A) := argH_only ar
  have hok0 : HOk P w (argH K s₁.heap A) s₁.heap := argH_ok ar
  have hS := dw_all KX ar ds vals hwl hpl ho
  have hV := vals_toV ho
  have hK : ∀ b u, argH K s₁.heap A b = some u → K.lookup b = none := fun b u q => (argH_is ar q).1
  have isSeq : ∀ b u, argH K s₁.heap A b = some u → ∃ (o : Obj) (vs : Array Value) (n : Nat), s₁.heap.get? b = some o ∧ o.data = .seq vs n := fun b u q => by
    obtain ⟨_, vs, _, _, ⟨e, _⟩ | ⟨e, _⟩⟩ := argH_is ar q
    · exact ⟨_, _, _, e, rfl⟩
    · exact ⟨_, _, _, e, rfl⟩
  have nT : argH K s₁.heap A T = none := by
    cases q : argH K s₁.heap A T with
    | none => rfl
    | some u =>
      obtain ⟨o, vs, n, e, d⟩ := isSeq T u q
      rw [C.tab] at e
      cases e
      cases d
  generalize argH K s₁.heap A = H0 at hO hok0 hS hK isSeq nT
  have hok : HOk P w (withTab H0 T) s₁.heap := fun b o e => by
    by_cases hbT : b = T
    · subst hbT
      rw [withTab_at] at e
      cases e
      exact C.tab
    · rw [withTab_ne hbT] at e
      refine (hok0 b o e).stay (fun _ _ _ z => z) (fun d z => ?_) fun d ys z => ?_
      · rw [withTab_ne (ne_of_none z nT)]; exact z
      · rw [withTab_ne (ne_of_none z nT)]; exact z
  have noD : ∀ {b : Addr} {o : Obj}, s₁.heap.get? b = some o → (∀ vs n, o.data ≠ .seq vs n) → o.data ≠ .fields #[] → withTab H0 T b = none := fun {b o} e h1 h2 => by
    by_cases hbT : b = T
    · subst hbT
      rw [C.tab] at e
      cases e
      exact (h2 rfl).elim
    · rw [withTab_ne hbT]
      cases q : H0 b with
      | none => rfl
      | some u =>
        obtain ⟨o', vs, n, e', d⟩ := isSeq b u q
        rw [e] at e'
        cases e'
        exact (h1 _ _ d).elim
  have noA : ∀ {b : Addr} {o : Obj} {es : Array DictEntry} {ep : Nat}, s₁.heap.get? b = some o → o.data = .dict es ep → withTab H0 T b = none := fun {b o es ep} e d => by
    refine noD e (fun vs n z => ?_) fun z => ?_
    · rw [d] at z
      cases z
    · rw [d] at z
      cases z
  have base_of : ∀ {b : Addr} {o : Obj}, s₁.heap.get? b = some o → withTab H0 T b = none → (hidT s₁.heap (withTab H0 T)).get? b = some o := fun e n => hidT_get e n
  have nsK : ∀ {b : Addr} {m : Str → Option Value}, s₁.heap.Ns b m → (hidT s₁.heap (withTab H0 T)).Ns b m := fun {b m} ⟨o, es, ep, e, d, r⟩ => ⟨o, es, ep, base_of e (noA e d), d, r⟩
  have nK : ∀ b o, K.lookup b = some o → withTab H0 T b = none := fun b o e => by
    have hbT : b ≠ T := by
      rintro rfl
      rw [C.free] at e
      cases e
    rw [withTab_ne hbT]
    cases q : H0 b with
    | none => rfl
    | some u =>
      rw [hK b u q] at e
      cases e
  have hKb : K.In (hidT s₁.heap (withTab H0 T)) := fun b o e => base_of (KX b o e) (nK b o e)
  have hM : L2.Mod K mg (hidT s₁.heap (withTab H0 T)) := ⟨hKb, nsK hns, ⟨mb, nsK hb, hbb⟩, let ⟨mc, h1, h2⟩ := hlim; ⟨mc, nsK h1, h2⟩⟩
  have TB : LamX.TabB (hidT s₁.heap (withTab H0 T)) mg c T := by
    refine ⟨?_, ?_, fun z => ?_⟩
    · obtain ⟨o, us, file, tf, flags, tg, inF, text, tt, e1, r1, r2, r3, r⟩ := C.code
      refine ⟨o, us, file, tf, flags, tg, inF, text, tt, base_of e1 (noD e1 (fun vs n z => ?_) fun z => ?_), r1, r2, r3, r⟩
      · rw [r2] at z
        cases z
      · rw [r2] at z
        cases z
        simp at r3
    · obtain ⟨bm, ob, b1, b2, b3, b4, b5, b6⟩ := hbm
      have nG : bm ≠ mainGlobals := fun q => by
        obtain ⟨o, es, ep, e, hd, _⟩ := hns
        rw [q, e] at b3
        cases b3
        rw [hd] at b6
        cases b6
      have nP : bm ≠ T := fun q => by
        rw [q, C.tab] at b3
        cases b3
        cases b6
      refine ⟨bm, ob, b1, b2, nG, nP, base_of b3 (noD b3 (fun vs n z => ?_) fun z => ?_), b4, b5, b6⟩
      · rw [b6] at z
        cases z
      · rw [b6] at z
        cases z
    · obtain ⟨o, es, ep, e, hd, _⟩ := hns
      rw [z, C.tab] at e
      cases e
      cases hd
  have e0 : Env0 P w K mg (hidT s₁.heap (withTab H0 T)) callerA [] s₁ (withTab H0 T) := ⟨rfl, hM, fun b o e => of_hidT e, Nat.le_of_eq (hidT_size _ _), trivial, fun b hb => absurd (show b ∈ ([] : List Addr) from hb) (by simp), hok, .of_eq hg⟩
  have hl : vals.length = ps.length := by rw [wellAll_len hwl]; exact hlen
  refine codeAny_mono ((F _ hKb (nsK hns) TB).run callerA [] s₁ (withTab H0 T) ⟨vals, []⟩ vals (vals.map toV) _ _ hr e0 (hbind s₁ vals hl) hV (hsp H0 (withTab H0 T) _ (fun b o e => by rw [withTab_ne (ne_of_none e nT)]; exact e) withTab_at hS)) fun r s' x => ?_
  cases r with
  | error e => exact False.elim x
  | ok fl =>
    cases fl with
    | next => exact False.elim x
    | brk => exact False.elim x
    | cont => exact False.elim x
    | ret u =>
      obtain ⟨v, H', os, bare, un, hok', r', q⟩ := x
      have kept : ∀ b o, b ≠ T → s₁.heap.get? b = some o → s'.heap.get? b = some o := fun b o hbT e => by
        cases q2 : withTab H0 T b with
        | none => exact un.keep b o e q2 (by intro z; exact absurd (show b ∈ ([] : List Addr) from z) (by simp)) (by simp)
        | some u2 =>
          have q3 := q2
          rw [withTab_ne hbT] at q3
          rcases hO b with z | ⟨ob, u3, z⟩
          · rw [q3] at z
            cases z
          · rw [q3] at z
            cases z
            have z2 := un.frzs b ob _ q2
            obtain ⟨e1, _⟩ := hok b _ q2
            obtain ⟨e2, _⟩ := hok' b _ z2
            rw [e] at e1
            cases e1
            exact e2
      have KX' : K.In s'.heap := fun b o e => kept b o (by
        rintro rfl
        rw [C.free] at e
        cases e) (KX b o e)
      obtain ⟨more, zm⟩ := un.tbls T #[] withTab_at
      have hgrown : s'.heap.get? T = some { cls := .none, data := .fields (#[] ++ more) } := hok' T _ zm
      obtain ⟨as, hrd⟩ := Dw.reads (R := R) (cl := cl) hok' KX' d0 v u q r'
      refine ⟨u, as, rfl, hrd, ⟨fun b o e => ?_, fun b o e => ?_⟩, os, bare⟩
      · by_cases hbT : b = T
        · subst hbT
          have e' := e
          rw [C.tab] at e'
          cases e'
          exact .inr (.inl ⟨(C.code.tab C.tab).isCodeTable, rfl, #[], more, rfl, hgrown⟩)
        · exact .inl (kept b o hbT e)
      · by_cases hbT : b = T
        · subst hbT
          exact ⟨_, hgrown⟩
        · exact ⟨o, kept b o hbT e⟩
/-- where a def's code object and its table stand, from what is written of the def -/
theorem tabIn_of {K : PySem.W.Frag} {x : Str} {f c T : Addr} {oc e : Value} {od dd : Option Addr} {fd : FuncData} {vs : Array Value} {sl sl' : Array (Option Value)} (h1 : PySem.W.nsIn K mainGlobals x = some (some (.ref f))) (h2 : K.lookup f = some ⟨oc, od, .func fd, sl⟩) (h3 : fd.code = .ref c)
    (h4 : K.lookup c = some ⟨e, dd, .fields vs, sl'⟩) (h5 : (vs[11]? : Option Value) = some (.ref T)) : PySem.W.tabIn K x = some (c, T) := by
  unfold PySem.W.tabIn
  rw [h1]
  dsimp only
  rw [h2]
  dsimp only
  rw [h3]
  dsimp only
  rw [h4]
  dsimp only
  rw [h5]
theorem walk_specT {r : OpenSpec} {k : Nat} {q : Program} {loose : List Str} {XP : (Str → Option Value) → Heap → Prop} {YP : World → Heap → Prop} {d : DefRec} {K : Params → PySem.W.Frag} {ps : List Str} {x : Str}
    (hwell : r.wellSaid = true) (hdf : d.params.defaults = []) (hlen : r.args.length = ps.length) (hr : Room k callerA) (hrec : ((recsOf q).any fun e => e.name == x) = true) (hno : ∀ w : World, PySem.W.noTabs (K w.params) = true)
    (hY : ∀ (w : World) (h : Heap), YP w h → (K w.params).In h)
    (F : ∀ (w : World) (mg : Str → Option Value) (fa : Addr) (h : Heap), YP w h → (K w.params).In h → h.Ns mainGlobals mg → mg d.name = some (.ref fa) →
      ∃ (fd : FuncData) (c T : Addr) (sp : Sp), PySem.W.tabIn (K w.params) x = some (c, T) ∧ (∀ (s : Shared) (us : List Value), us.length = ps.length → BindsTo s fd ⟨us, []⟩ (ps.zip us)) ∧
        (∀ (H0 H : Hp) (xs : List V) (a : Codec.denoteAll r.args), (∀ b o, H0 b = some o → H b = some o) → H T = some (.tbl #[]) → Codec.withinAll r.args a = true → Codec.app r.args r.asked a = true → DwAll (K w.params) H0 xs (Codec.encAll r.args a) →
          sp xs H (fun v H' => Dw (K w.params) H' v (r.ret.enc (Codec.app r.args r.f a))) fun _ _ _ => False) ∧
        ∀ base : Heap, (K w.params).In base → base.Ns mainGlobals mg → LamX.TabB base mg c T → FnOk r.prog w (K w.params) mg base CX0 k fa fd ps sp) :
    PySem.W.WalkOS q loose XP YP r d [] (fun f vs => PySem.call f vs) := by
  intro w s₀ s₁ mg mb G Y fa o pm cd doc dV kV ho hd hcd hD hmg hg args vals as hpre hlay hrd hwl hlo
  obtain ⟨a, e1, e2⟩ := PySem.W.os_pre_some hpre
  obtain ⟨e3, hwi⟩ := Codec.encAll_of_decAll r.args args a e1
  subst e3
  have KX := hY w _ Y
  obtain ⟨fd, c, T, sp, ht, hb, hsp, hF⟩ := F w mg fa _ Y KX G.T.g hmg
  have tabled : Tabled (K w.params) s₁.heap c T := by
    cases ef : (recsOf q).find? (fun e => e.name == x) with
    | none =>
      rw [List.find?_eq_none] at ef
      obtain ⟨y, hy1, hy2⟩ := List.any_eq_true.mp hrec
      exact absurd hy2 (ef y hy1)
    | some dL =>
      obtain ⟨t1, t2⟩ := PySem.W.tab_of G.T KX ef ht
      refine ⟨t1, t2, ?_⟩
      cases ek : (K w.params).lookup T with
      | none => rfl
      | some ob =>
        have z := KX _ _ ek
        have z2 := List.all_eq_true.mp (hno w) (T, ob) (PySem.W.mem_of_lookupK ek)
        rw [t2] at z
        cases z
        exact absurd (show false = true from z2) Bool.false_ne_true
  refine PySem.W.enter_call (codeAny_mono (spec_callT (R := []) (cl := classAt s₀.heap) (d0 := r.ret.enc (Codec.app r.args r.f a)) KX G.T.g G.T.b G.T.builtins G.T.nolimit hg tabled G.T.bmain hwl (pl_encAll _ _) (layable_weight hlay) hr hF hb (by rw [encAll_len]; exact hlen)
    (fun H0 H xs h0 hT hS => hsp H0 H xs a h0 hT hwi e2 hS)) fun r' s' hq => ?_)
  obtain ⟨u, as', rfl, h1, h2, h3, h4⟩ := hq
  exact ⟨.inl ⟨u, _, as', rfl, fun _ => rfl, h1, (OpenSpec.post_iff hwell hwi _ _).mpr rfl, fun z => Bool.noConfusion (show false = true from z)⟩, h2, h3, h4⟩
end Lp
namespace Lp
open PySem PySem.Spec PyProof.Rows L2
/-! ### what the top has written, piece by piece -/
structure CD (K : PySem.W.Frag) (mg : Str → Option Value) (C : Addr) (x : Str) (f : Addr) : Prop where
  c : Cls K C
  k : Mk K C f
  g : mg x = some (.ref C)
structure GD (K : PySem.W.Frag) (mg : Str → Option Value) (x : Str) (st : Stmt) (f : Addr) (fd : FuncData) : Prop where
  F : Fun K x x st f fd
  g : mg x = some (.ref f)
structure MD (K : PySem.W.Frag) (C : Addr) (x qual : Str) (st : Stmt) (f : Addr) (fd : FuncData) : Prop where
  F : Fun K x qual st f fd
  m : Meth K C x f
section
variable {K : PySem.W.Frag} {h : Heap} {mg : Str → Option Value} {C f : Addr} {x qual : Str} {st : Stmt} {oc kV doc pm cdv ct : Value} {od an : Option Addr} {osl : Array (Option Value)}
theorem cd_mk (X : K.In h) (G : h.Ns mainGlobals mg) (a : PySem.W.nsIn K mainGlobals x = some (some (.ref C))) (pg : PySem.W.plainGet K C Str.empty = true) (hd : PySem.W.hasDictIn K C = true) (po : PySem.W.plainOver K C = true)
    (sa : PySem.W.findIn K (.ref C) "__setattr__" = some (some (.builtin "object.__setattr__"))) (mk : PySem.W.makesIn K C = true) (kc : PySem.W.keepIn K (.ref C) = true) (fi : PySem.W.findIn K (.ref C) "__init__" = some (some (.ref f))) (ff : PySem.W.isFn K (.ref f) = true) : CD K mg C x f :=
  ⟨⟨pg, hd, po, sa⟩, ⟨mk, fi, ff, kc⟩, PySem.W.mg_of X G a⟩
theorem gd_mk (X : K.In h) (G : h.Ns mainGlobals mg) (a : PySem.W.nsIn K mainGlobals x = some (some (.ref f))) (l : K.lookup f = some ⟨oc, od, .func (PySem.W.fnOf x x (defArgs st) (defBody st) (defScope st) .none kV doc pm an cdv ct), osl⟩)
    (c : PySem.W.codeIn K cdv x = true) (k : PySem.W.keepIn K (.ref f) = true) : GD K mg x st f (PySem.W.fnOf x x (defArgs st) (defBody st) (defScope st) .none kV doc pm an cdv ct) := ⟨fun_mk l c k, PySem.W.mg_of X G a⟩
theorem md_mk (a : PySem.W.findIn K (.ref C) x = some (some (.ref f))) (i : PySem.W.isFn K (.ref f) = true) (l : K.lookup f = some ⟨oc, od, .func (PySem.W.fnOf x qual (defArgs st) (defBody st) (defScope st) .none kV doc pm an cdv ct), osl⟩)
    (c : PySem.W.codeIn K cdv qual = true) (k : PySem.W.keepIn K (.ref f) = true) : MD K C x qual st f (PySem.W.fnOf x qual (defArgs st) (defBody st) (defScope st) .none kV doc pm an cdv ct) := ⟨fun_mk l c k, ⟨a, i, k⟩⟩
end
/-! constants -/
def constsOk (K : PySem.W.Frag) (l : List (Str × Int)) : Bool := l.all fun p => match PySem.W.nsIn K mainGlobals p.1 with
  | some (some (.int n _)) => n == p.2
  | _ => false
def ConstsAt (mg : Str → Option Value) : List (Str × Int) → Prop
  | [] => True
  | p :: r => (∃ t, mg p.1 = some (.int p.2 t)) ∧ ConstsAt mg r
theorem consts_of {K : PySem.W.Frag} {h : Heap} {mg : Str → Option Value} (X : K.In h) (G : h.Ns mainGlobals mg) : ∀ {l : List (Str × Int)}, constsOk K l = true → ConstsAt mg l
  | [], _ => trivial
  | p :: r, q => by
    have q' : ((match PySem.W.nsIn K mainGlobals p.1 with
      | some (some (.int n _)) => n == p.2
      | _ => false) && constsOk K r) = true := q
    rw [Bool.and_eq_true] at q'
    refine ⟨?_, consts_of X G q'.2⟩
    have q1 := q'.1
    split at q1
    · rename_i n t e
      have z : n = p.2 := beq_iff_eq.mp q1
      rw [← z]
      exact ⟨t, PySem.W.mg_of X G e⟩
    · cases q1
def constL : List (Str × Int) := [(("FREE" : Str), (0 : Int)), (("OFFERED" : Str), (1 : Int)), (("LENT" : Str), (2 : Int)), (("REFUSED" : Str), (3 : Int)), (("COOKIE_AT" : Str), (236 : Int)), (("OPTIONS_AT" : Str), (240 : Int)), (("SMALLEST" : Str), (244 : Int)), (("LARGEST" : Str), (576 : Int)), (("FILLING" : Str), (0 : Int)), (("WANTED" : Str), (50 : Int)), (("OVERLOAD" : Str), (52 : Int)), (("KIND" : Str), (53 : Int)), (("SERVER" : Str), (54 : Int)), (("IDENTIFIER" : Str), (61 : Int)), (("END" : Str), (255 : Int)), (("OFFER" : Str), (2 : Int)), (("ACK" : Str), (5 : Int)), (("NAK" : Str), (6 : Int)), (("EVERYBODY" : Str), (4294967295 : Int)), (("BROADCAST_FLAGS" : Str), (32768 : Int)), (("RELAY_PORT" : Str), (67 : Int)), (("CLIENT_PORT" : Str), (68 : Int)), (("LEAST_BYTES" : Str), (300 : Int)), (("DISCOVER" : Str), (1 : Int)), (("REQUEST" : Str), (3 : Int)), (("DECLINE" : Str), (4 : Int)), (("RELEASE" : Str), (7 : Int)), (("INFORM" : Str), (8 : Int)), (("OFFER_SECONDS" : Str), (60 : Int)), (("REFUSED_SECONDS" : Str), (600 : Int)), (("ALL_ONES" : Str), (4294967295 : Int)), (("MOST_PLACES" : Str), (256 : Int)), (("SHORTEST_LOAN" : Str), (60 : Int)), (("LONGEST_LOAN" : Str), (31536000 : Int)), (("OPEN" : Str), (0 : Int)), (("PACKET" : Str), (1 : Int)), (("TICK" : Str), (2 : Int)), (("MOST_BYTES" : Str), (1500 : Int))]
/-! the options' lengths -/
theorem sqT_of {K : PySem.W.Frag} {p : Addr} {x y : Int} {u v : Tok} {m : Nat} {od : Option Addr} {sl : Array (Option Value)} (l : K.lookup p = some ⟨.type "tuple", od, .seq #[.int x u, .int y v] m, sl⟩) (H : Hp) : SqT K H p [.int x, .int y] :=
  .inr ⟨_, _, _, l, rfl, rfl, (by show 2 ≤ sizeLine; decide), .cons ⟨_, rfl⟩ (.cons ⟨_, rfl⟩ .nil)⟩
theorem sqT4_of {K : PySem.W.Frag} {p : Addr} {x y z t : Int} {u1 u2 u3 u4 : Tok} {m : Nat} {od : Option Addr} {sl : Array (Option Value)} (l : K.lookup p = some ⟨.type "tuple", od, .seq #[.int x u1, .int y u2, .int z u3, .int t u4] m, sl⟩) (H : Hp) : SqT K H p [.int x, .int y, .int z, .int t] :=
  .inr ⟨_, _, _, l, rfl, rfl, (by show 4 ≤ sizeLine; decide), .cons ⟨_, rfl⟩ (.cons ⟨_, rfl⟩ (.cons ⟨_, rfl⟩ (.cons ⟨_, rfl⟩ .nil)))⟩
theorem lens_mk {P : Program} {w : World} {K : PySem.W.Frag} {D t0 t1 t2 t3 t4 t5 t6 : Addr} {k0 k1 k2 k3 k4 k5 k6 u0 v0 u1 v1 u2 v2 u3 v3 u4 v4 u5 v5 u6 v6 : Tok} {nD m0 m1 m2 m3 m4 m5 m6 : Nat} {od0 od1 od2 od3 od4 od5 od6 : Option Addr} {sl0 sl1 sl2 sl3 sl4 sl5 sl6 : Array (Option Value)}
    (lD : K.lookup D = some ⟨.type "dict", none, .dict #[⟨50, .int 50 k0, .ref t0⟩, ⟨51, .int 51 k1, .ref t1⟩, ⟨53, .int 53 k2, .ref t2⟩, ⟨54, .int 54 k3, .ref t3⟩, ⟨55, .int 55 k4, .ref t4⟩, ⟨57, .int 57 k5, .ref t5⟩, ⟨61, .int 61 k6, .ref t6⟩] nD, #[]⟩) (hs : (D == sysModules) = false)
    (l0 : K.lookup t0 = some ⟨.type "tuple", od0, .seq #[.int 4 u0, .int 4 v0] m0, sl0⟩)
    (l1 : K.lookup t1 = some ⟨.type "tuple", od1, .seq #[.int 4 u1, .int 4 v1] m1, sl1⟩)
    (l2 : K.lookup t2 = some ⟨.type "tuple", od2, .seq #[.int 1 u2, .int 1 v2] m2, sl2⟩)
    (l3 : K.lookup t3 = some ⟨.type "tuple", od3, .seq #[.int 4 u3, .int 4 v3] m3, sl3⟩)
    (l4 : K.lookup t4 = some ⟨.type "tuple", od4, .seq #[.int 1 u4, .int 255 v4] m4, sl4⟩)
    (l5 : K.lookup t5 = some ⟨.type "tuple", od5, .seq #[.int 2 u5, .int 2 v5] m5, sl5⟩)
    (l6 : K.lookup t6 = some ⟨.type "tuple", od6, .seq #[.int 2 u6, .int 32 v6] m6, sl6⟩)
    : ∃ ts : List Addr, ts.length = 7 ∧ KDI K P w D (lenK ts) ∧ ∀ (i : Nat) (p : Addr) (x : Nat × Nat × Nat), ts[i]? = some p → lenTab[i]? = some x → ∀ H : Hp, SqT K H p [.int (x.2.1 : Int), .int (x.2.2 : Int)] := by
  refine ⟨[t0, t1, t2, t3, t4, t5, t6], rfl, ⟨_, _, [(.inl 50, .ref t0), (.inl 51, .ref t1), (.inl 53, .ref t2), (.inl 54, .ref t3), (.inl 55, .ref t4), (.inl 57, .ref t5), (.inl 61, .ref t6)], lD, hs, ?_, ?_, ?_, by show ([.inl 50, .inl 51, .inl 53, .inl 54, .inl 55, .inl 57, .inl 61] : List Key).Nodup; decide⟩, fun i p x hp hx H => ?_⟩
  · exact .cons ⟨rfl, rfl⟩ (.cons ⟨rfl, rfl⟩ (.cons ⟨rfl, rfl⟩ (.cons ⟨rfl, rfl⟩ (.cons ⟨rfl, rfl⟩ (.cons ⟨rfl, rfl⟩ (.cons ⟨rfl, rfl⟩ (.nil)))))))
  · intro e he
    have he2 : e ∈ [(⟨50, .int 50 k0, .ref t0⟩ : DictEntry), (⟨51, .int 51 k1, .ref t1⟩ : DictEntry), (⟨53, .int 53 k2, .ref t2⟩ : DictEntry), (⟨54, .int 54 k3, .ref t3⟩ : DictEntry), (⟨55, .int 55 k4, .ref t4⟩ : DictEntry), (⟨57, .int 57 k5, .ref t5⟩ : DictEntry), (⟨61, .int 61 k6, .ref t6⟩ : DictEntry)] := by simpa using he
    simp only [List.mem_cons, List.not_mem_nil, or_false] at he2
    rcases he2 with rfl | rfl | rfl | rfl | rfl | rfl | rfl
    · exact ⟨.inl 50, mixKind_int P w _ _, (by show (50 : Int) = hashInt 50; decide +kernel)⟩
    · exact ⟨.inl 51, mixKind_int P w _ _, (by show (51 : Int) = hashInt 51; decide +kernel)⟩
    · exact ⟨.inl 53, mixKind_int P w _ _, (by show (53 : Int) = hashInt 53; decide +kernel)⟩
    · exact ⟨.inl 54, mixKind_int P w _ _, (by show (54 : Int) = hashInt 54; decide +kernel)⟩
    · exact ⟨.inl 55, mixKind_int P w _ _, (by show (55 : Int) = hashInt 55; decide +kernel)⟩
    · exact ⟨.inl 57, mixKind_int P w _ _, (by show (57 : Int) = hashInt 57; decide +kernel)⟩
    · exact ⟨.inl 61, mixKind_int P w _ _, (by show (61 : Int) = hashInt 61; decide +kernel)⟩
  · exact .cons (mixKind_int P w _ _) rfl (.cons (mixKind_int P w _ _) rfl (.cons (mixKind_int P w _ _) rfl (.cons (mixKind_int P w _ _) rfl (.cons (mixKind_int P w _ _) rfl (.cons (mixKind_int P w _ _) rfl (.cons (mixKind_int P w _ _) rfl (.nil)))))))
  · match i, hp, hx with
    | 0, hp, hx => cases hp; cases hx; exact sqT_of l0 H
    | 1, hp, hx => cases hp; cases hx; exact sqT_of l1 H
    | 2, hp, hx => cases hp; cases hx; exact sqT_of l2 H
    | 3, hp, hx => cases hp; cases hx; exact sqT_of l3 H
    | 4, hp, hx => cases hp; cases hx; exact sqT_of l4 H
    | 5, hp, hx => cases hp; cases hx; exact sqT_of l5 H
    | 6, hp, hx => cases hp; cases hx; exact sqT_of l6 H
    | j + 7, hp, hx => cases hp
/-! ### the whole -/
def AskS (K : PySem.W.Frag) (T : Addr) (sp : Sp) : Prop := ∀ (H : Hp) (l : Addr) (ns : List Int) (Q : VK) (E : XK), H T = some (.tbl #[]) → SqL K H l (zv ns) → ns.length ≤ 30000 → (∀ x ∈ ns, 0 ≤ x) → PySd22.answers_asked ns = true → (∀ H' q, H' q = some (.lst (zv (PySd22.answers ns))) → Q (.ref q) H') → sp [.ref l] H Q E
theorem s_end {K : PySem.W.Frag} {P : Addr → Addr → Prop} {B : FuncData → Prop} {O : FuncData → Addr → Addr → Sp → Prop} {S2 : Addr → Sp → Prop} (A : ∃ (fd : FuncData) (c T : Addr) (sp : Sp), P c T ∧ B fd ∧ AskS K T sp ∧ O fd c T sp) (S : ∀ (sp : Sp) (T : Addr), AskS K T sp → S2 T sp) : ∃ (fd : FuncData) (c T : Addr) (sp : Sp), P c T ∧ B fd ∧ S2 T sp ∧ O fd c T sp :=
  let ⟨fd, c, T, sp, h1, h2, h3, h4⟩ := A; ⟨fd, c, T, sp, h1, h2, S sp T h3, h4⟩
theorem inInt_low {x hi : Int} (h : PySem.W.Codec.inInt 0 hi x = true) : 0 ≤ x := by
  unfold PySem.W.Codec.inInt at h
  rw [Bool.and_eq_true] at h
  exact of_decide_eq_true h.1
theorem all_mk {P : Program} {w : World} {K : PySem.W.Frag} {h : Heap} {mg : Str → Option Value} {fa : Addr} {cPlace cMessage cLender cNet cDesk f_pInit f_turn f_freeAt f_ownOf f_ownAmong f_oldest f_numberOf f_addressIn f_mInit f_areRight f_readOptions f_readMessage f_addressFor f_fourBytes f_header f_numberOption f_optionsOf f_portFor f_reply f_lInit f_tick f_lends f_placeAt f_look f_ownAt f_decline f_choose f_discover f_release f_deny f_lend f_reqAgain f_sharesNet f_reqKnown f_reqOffered f_takeBack f_request f_handle f_nInit f_isMask f_isRight f_dInit f_begin f_take f_respond f_answers kCOOKIE kLENGTHS cOld pTab : Addr} {d_pInit d_turn d_freeAt d_ownOf d_ownAmong d_numberOf d_addressIn d_mInit d_areRight d_readOptions d_readMessage d_addressFor d_fourBytes d_header d_numberOption d_optionsOf d_portFor d_reply d_lInit d_tick d_lends d_placeAt d_look d_ownAt d_decline d_choose d_discover d_release d_deny d_lend d_reqAgain d_sharesNet d_reqKnown d_reqOffered d_takeBack d_request d_handle d_nInit d_isMask d_isRight d_dInit d_begin d_take d_respond d_answers : FuncData} {ocO kVO docO pmO ctO : Value} {odO anO : Option Addr} {oslO : Array (Option Value)} {eO : Value} {ddO : Option Addr} {vsO : Array Value} {slO : Array (Option Value)} (X : K.In h) (G : h.Ns mainGlobals mg) (hfa : mg "answers" = some (.ref fa))
    (D_Place : CD K mg cPlace "Place" f_pInit)
    (D_Message : CD K mg cMessage "Message" f_mInit)
    (D_Lender : CD K mg cLender "Lender" f_lInit)
    (D_Net : CD K mg cNet "Net" f_nInit)
    (D_Desk : CD K mg cDesk "Desk" f_dInit)
    (n_Place_address : PySem.W.findIn K (.ref cPlace) "address" = some none)
    (n_Place_state : PySem.W.findIn K (.ref cPlace) "state" = some none)
    (n_Place_till : PySem.W.findIn K (.ref cPlace) "till" = some none)
    (n_Place_owner : PySem.W.findIn K (.ref cPlace) "owner" = some none)
    (n_Message_number : PySem.W.findIn K (.ref cMessage) "number" = some none)
    (n_Message_flags : PySem.W.findIn K (.ref cMessage) "flags" = some none)
    (n_Message_client : PySem.W.findIn K (.ref cMessage) "client" = some none)
    (n_Message_relay : PySem.W.findIn K (.ref cMessage) "relay" = some none)
    (n_Message_machine : PySem.W.findIn K (.ref cMessage) "machine" = some none)
    (n_Message_kind : PySem.W.findIn K (.ref cMessage) "kind" = some none)
    (n_Message_wanted : PySem.W.findIn K (.ref cMessage) "wanted" = some none)
    (n_Message_server : PySem.W.findIn K (.ref cMessage) "server" = some none)
    (n_Message_identifier : PySem.W.findIn K (.ref cMessage) "identifier" = some none)
    (n_Message_who : PySem.W.findIn K (.ref cMessage) "who" = some none)
    (n_Lender_net : PySem.W.findIn K (.ref cLender) "net" = some none)
    (n_Lender_now : PySem.W.findIn K (.ref cLender) "now" = some none)
    (n_Lender_places : PySem.W.findIn K (.ref cLender) "places" = some none)
    (n_Net_server : PySem.W.findIn K (.ref cNet) "server" = some none)
    (n_Net_mask : PySem.W.findIn K (.ref cNet) "mask" = some none)
    (n_Net_way_out : PySem.W.findIn K (.ref cNet) "way_out" = some none)
    (n_Net_names : PySem.W.findIn K (.ref cNet) "names" = some none)
    (n_Net_first : PySem.W.findIn K (.ref cNet) "first" = some none)
    (n_Net_how_many : PySem.W.findIn K (.ref cNet) "how_many" = some none)
    (n_Net_how_long : PySem.W.findIn K (.ref cNet) "how_long" = some none)
    (n_Net_last : PySem.W.findIn K (.ref cNet) "last" = some none)
    (n_Desk_lender : PySem.W.findIn K (.ref cDesk) "lender" = some none)
    (D_pInit : Fun K "__init__" "Place.__init__" s_pInit f_pInit d_pInit)
    (D_turn : MD K cPlace "turn" "Place.turn" s_turn f_turn d_turn)
    (D_freeAt : MD K cPlace "is_free_at" "Place.is_free_at" s_freeAt f_freeAt d_freeAt)
    (D_ownOf : MD K cPlace "is_own_of" "Place.is_own_of" s_ownOf f_ownOf d_ownOf)
    (D_ownAmong : GD K mg "own_among" s_ownAmong f_ownAmong d_ownAmong)
    (aO : PySem.W.nsIn K mainGlobals "oldest_free" = some (some (.ref f_oldest))) (lO : K.lookup f_oldest = some ⟨ocO, odO, .func (PySem.W.fnOf "oldest_free" "oldest_free" (defArgs s_oldest) (defBody s_oldest) (defScope s_oldest) .none kVO docO pmO anO (.ref cOld) ctO), oslO⟩) (cO : PySem.W.codeIn K (.ref cOld) "oldest_free" = true) (kO : PySem.W.keepIn K (.ref f_oldest) = true) (lC : K.lookup cOld = some ⟨eO, ddO, .fields vsO, slO⟩) (pC : (vsO[11]? : Option Value) = some (.ref pTab))
    (D_numberOf : GD K mg "number_of" s_numberOf f_numberOf d_numberOf)
    (D_addressIn : GD K mg "address_in" s_addressIn f_addressIn d_addressIn)
    (D_mInit : Fun K "__init__" "Message.__init__" s_mInit f_mInit d_mInit)
    (D_areRight : GD K mg "are_right" s_areRight f_areRight d_areRight)
    (D_readOptions : GD K mg "read_options" s_readOptions f_readOptions d_readOptions)
    (D_readMessage : GD K mg "read_message" s_readMessage f_readMessage d_readMessage)
    (D_addressFor : GD K mg "address_for" s_addressFor f_addressFor d_addressFor)
    (D_fourBytes : GD K mg "four_bytes" s_fourBytes f_fourBytes d_fourBytes)
    (D_header : GD K mg "header" s_header f_header d_header)
    (D_numberOption : GD K mg "number_option" s_numberOption f_numberOption d_numberOption)
    (D_optionsOf : GD K mg "options_of" s_optionsOf f_optionsOf d_optionsOf)
    (D_portFor : GD K mg "port_for" s_portFor f_portFor d_portFor)
    (D_reply : GD K mg "reply" s_reply f_reply d_reply)
    (D_lInit : Fun K "__init__" "Lender.__init__" s_lInit f_lInit d_lInit)
    (D_tick : MD K cLender "tick" "Lender.tick" s_tick f_tick d_tick)
    (D_lends : MD K cNet "lends" "Net.lends" s_lends f_lends d_lends)
    (D_placeAt : MD K cLender "place_at" "Lender.place_at" s_placeAt f_placeAt d_placeAt)
    (D_look : MD K cLender "look" "Lender.look" s_look f_look d_look)
    (D_ownAt : MD K cLender "own_at" "Lender.own_at" s_ownAt f_ownAt d_ownAt)
    (D_decline : MD K cLender "decline" "Lender.decline" s_decline f_decline d_decline)
    (D_choose : MD K cLender "choose" "Lender.choose" s_choose f_choose d_choose)
    (D_discover : MD K cLender "discover" "Lender.discover" s_discover f_discover d_discover)
    (D_release : MD K cLender "release" "Lender.release" s_release f_release d_release)
    (D_deny : MD K cLender "deny" "Lender.deny" s_deny f_deny d_deny)
    (D_lend : MD K cLender "lend" "Lender.lend" s_lend f_lend d_lend)
    (D_reqAgain : MD K cLender "request_again" "Lender.request_again" s_reqAgain f_reqAgain d_reqAgain)
    (D_sharesNet : MD K cNet "shares_net" "Net.shares_net" s_sharesNet f_sharesNet d_sharesNet)
    (D_reqKnown : MD K cLender "request_known" "Lender.request_known" s_reqKnown f_reqKnown d_reqKnown)
    (D_reqOffered : MD K cLender "request_offered" "Lender.request_offered" s_reqOffered f_reqOffered d_reqOffered)
    (D_takeBack : MD K cLender "take_back" "Lender.take_back" s_takeBack f_takeBack d_takeBack)
    (D_request : MD K cLender "request" "Lender.request" s_request f_request d_request)
    (D_handle : MD K cLender "handle" "Lender.handle" s_handle f_handle d_handle)
    (D_nInit : Fun K "__init__" "Net.__init__" s_nInit f_nInit d_nInit)
    (D_isMask : GD K mg "is_mask" s_isMask f_isMask d_isMask)
    (D_isRight : MD K cNet "is_right" "Net.is_right" s_isRight f_isRight d_isRight)
    (D_dInit : Fun K "__init__" "Desk.__init__" s_dInit f_dInit d_dInit)
    (D_begin : MD K cDesk "begin" "Desk.begin" s_begin f_begin d_begin)
    (D_take : MD K cDesk "take" "Desk.take" s_take f_take d_take)
    (D_respond : MD K cDesk "respond" "Desk.respond" s_respond f_respond d_respond)
    (D_answers : GD K mg "answers" s_answers f_answers d_answers)
    (b_len : PySem.W.nsIn K mainGlobals "len" = some none)
    (b_max : PySem.W.nsIn K mainGlobals "max" = some none)
    (b_any : PySem.W.nsIn K mainGlobals "any" = some none)
    (b_list : PySem.W.nsIn K mainGlobals "list" = some none)
    (b_min : PySem.W.nsIn K mainGlobals "min" = some none)
    (b_range : PySem.W.nsIn K mainGlobals "range" = some none)
    (cs : constsOk K constL = true) (aK : PySem.W.nsIn K mainGlobals "COOKIE" = some (some (.ref kCOOKIE))) (aL : PySem.W.nsIn K mainGlobals "LENGTHS" = some (some (.ref kLENGTHS))) (hK : ∀ H : Hp, SqT K H kCOOKIE [.int 99, .int 130, .int 83, .int 99])
    (hL : ∃ ts : List Addr, ts.length = 7 ∧ KDI K P w kLENGTHS (lenK ts) ∧ ∀ (i : Nat) (p : Addr) (x : Nat × Nat × Nat), ts[i]? = some p → lenTab[i]? = some x → ∀ H : Hp, SqT K H p [.int (x.2.1 : Int), .int (x.2.2 : Int)]) :
    ∃ (fd : FuncData) (c T : Addr) (sp : Sp), PySem.W.tabIn K "oldest_free" = some (c, T) ∧ (∀ (s : Shared) (us : List Value), us.length = (["calls"] : List Str).length → BindsTo s fd ⟨us, []⟩ ((["calls"] : List Str).zip us)) ∧
      AskS K T sp ∧
      ∀ base : Heap, K.In base → base.Ns mainGlobals mg → LamX.TabB base mg c T → FnOk P w K mg base CX0 11 fa fd ["calls"] sp := by
  have ea := hfa.symm.trans D_answers.g
  cases ea
  have FO := fun_mk (st := s_oldest) lO cO kO
  have hc := consts_of X G cs
  obtain ⟨c_FREE, c_OFFERED, c_LENT, c_REFUSED, c_COOKIE_AT, c_OPTIONS_AT, c_SMALLEST, c_LARGEST, c_FILLING, c_WANTED, c_OVERLOAD, c_KIND, c_SERVER, c_IDENTIFIER, c_END, c_OFFER, c_ACK, c_NAK, c_EVERYBODY, c_BROADCAST_FLAGS, c_RELAY_PORT, c_CLIENT_PORT, c_LEAST_BYTES, c_DISCOVER, c_REQUEST, c_DECLINE, c_RELEASE, c_INFORM, c_OFFER_SECONDS, c_REFUSED_SECONDS, c_ALL_ONES, c_MOST_PLACES, c_SHORTEST_LOAN, c_LONGEST_LOAN, c_OPEN, c_PACKET, c_TICK, c_MOST_BYTES, _⟩ := hc
  have B_pInit := D_pInit.binds (ps := ["self", "address"]) fun _ _ _ _ _ _ us hl => match us, hl with | [_, _], _ => rfl
  have B_turn := D_turn.F.binds (ps := ["self", "state", "till", "owner"]) fun _ _ _ _ _ _ us hl => match us, hl with | [_, _, _, _], _ => rfl
  have B_freeAt := D_freeAt.F.binds (ps := ["self", "now"]) fun _ _ _ _ _ _ us hl => match us, hl with | [_, _], _ => rfl
  have B_ownOf := D_ownOf.F.binds (ps := ["self", "who"]) fun _ _ _ _ _ _ us hl => match us, hl with | [_, _], _ => rfl
  have B_ownAmong := D_ownAmong.F.binds (ps := ["places", "who"]) fun _ _ _ _ _ _ us hl => match us, hl with | [_, _], _ => rfl
  have B_oldest := FO.binds (ps := ["places", "now"]) fun _ _ _ _ _ _ us hl => match us, hl with | [_, _], _ => rfl
  have B_numberOf := D_numberOf.F.binds (ps := ["digits"]) fun _ _ _ _ _ _ us hl => match us, hl with | [_], _ => rfl
  have B_addressIn := D_addressIn.F.binds (ps := ["options", "number"]) fun _ _ _ _ _ _ us hl => match us, hl with | [_, _], _ => rfl
  have B_mInit := D_mInit.binds (ps := ["self", "packet", "options"]) fun _ _ _ _ _ _ us hl => match us, hl with | [_, _, _], _ => rfl
  have B_areRight := D_areRight.F.binds (ps := ["options"]) fun _ _ _ _ _ _ us hl => match us, hl with | [_], _ => rfl
  have B_readOptions := D_readOptions.F.binds (ps := ["packet"]) fun _ _ _ _ _ _ us hl => match us, hl with | [_], _ => rfl
  have B_readMessage := D_readMessage.F.binds (ps := ["packet"]) fun _ _ _ _ _ _ us hl => match us, hl with | [_], _ => rfl
  have B_addressFor := D_addressFor.F.binds (ps := ["message", "kind", "given"]) fun _ _ _ _ _ _ us hl => match us, hl with | [_, _, _], _ => rfl
  have B_fourBytes := D_fourBytes.F.binds (ps := ["number"]) fun _ _ _ _ _ _ us hl => match us, hl with | [_], _ => rfl
  have B_header := D_header.F.binds (ps := ["message", "kind", "given"]) fun _ _ _ _ _ _ us hl => match us, hl with | [_, _, _], _ => rfl
  have B_numberOption := D_numberOption.F.binds (ps := ["option", "number"]) fun _ _ _ _ _ _ us hl => match us, hl with | [_, _], _ => rfl
  have B_optionsOf := D_optionsOf.F.binds (ps := ["net", "message", "kind", "given"]) fun _ _ _ _ _ _ us hl => match us, hl with | [_, _, _, _], _ => rfl
  have B_portFor := D_portFor.F.binds (ps := ["message"]) fun _ _ _ _ _ _ us hl => match us, hl with | [_], _ => rfl
  have B_reply := D_reply.F.binds (ps := ["net", "message", "kind", "given"]) fun _ _ _ _ _ _ us hl => match us, hl with | [_, _, _, _], _ => rfl
  have B_lInit := D_lInit.binds (ps := ["self", "net"]) fun _ _ _ _ _ _ us hl => match us, hl with | [_, _], _ => rfl
  have B_tick := D_tick.F.binds (ps := ["self", "seconds"]) fun _ _ _ _ _ _ us hl => match us, hl with | [_, _], _ => rfl
  have B_lends := D_lends.F.binds (ps := ["self", "address"]) fun _ _ _ _ _ _ us hl => match us, hl with | [_, _], _ => rfl
  have B_placeAt := D_placeAt.F.binds (ps := ["self", "address"]) fun _ _ _ _ _ _ us hl => match us, hl with | [_, _], _ => rfl
  have B_look := D_look.F.binds (ps := ["self", "address"]) fun _ _ _ _ _ _ us hl => match us, hl with | [_, _], _ => rfl
  have B_ownAt := D_ownAt.F.binds (ps := ["self", "address", "who"]) fun _ _ _ _ _ _ us hl => match us, hl with | [_, _, _], _ => rfl
  have B_decline := D_decline.F.binds (ps := ["self", "message"]) fun _ _ _ _ _ _ us hl => match us, hl with | [_, _], _ => rfl
  have B_choose := D_choose.F.binds (ps := ["self", "message"]) fun _ _ _ _ _ _ us hl => match us, hl with | [_, _], _ => rfl
  have B_discover := D_discover.F.binds (ps := ["self", "message"]) fun _ _ _ _ _ _ us hl => match us, hl with | [_, _], _ => rfl
  have B_release := D_release.F.binds (ps := ["self", "message"]) fun _ _ _ _ _ _ us hl => match us, hl with | [_, _], _ => rfl
  have B_deny := D_deny.F.binds (ps := ["self", "message"]) fun _ _ _ _ _ _ us hl => match us, hl with | [_, _], _ => rfl
  have B_lend := D_lend.F.binds (ps := ["self", "place", "message"]) fun _ _ _ _ _ _ us hl => match us, hl with | [_, _, _], _ => rfl
  have B_reqAgain := D_reqAgain.F.binds (ps := ["self", "message"]) fun _ _ _ _ _ _ us hl => match us, hl with | [_, _], _ => rfl
  have B_sharesNet := D_sharesNet.F.binds (ps := ["self", "address"]) fun _ _ _ _ _ _ us hl => match us, hl with | [_, _], _ => rfl
  have B_reqKnown := D_reqKnown.F.binds (ps := ["self", "message"]) fun _ _ _ _ _ _ us hl => match us, hl with | [_, _], _ => rfl
  have B_reqOffered := D_reqOffered.F.binds (ps := ["self", "message"]) fun _ _ _ _ _ _ us hl => match us, hl with | [_, _], _ => rfl
  have B_takeBack := D_takeBack.F.binds (ps := ["self", "who"]) fun _ _ _ _ _ _ us hl => match us, hl with | [_, _], _ => rfl
  have B_request := D_request.F.binds (ps := ["self", "message"]) fun _ _ _ _ _ _ us hl => match us, hl with | [_, _], _ => rfl
  have B_handle := D_handle.F.binds (ps := ["self", "message"]) fun _ _ _ _ _ _ us hl => match us, hl with | [_, _], _ => rfl
  have B_nInit := D_nInit.binds (ps := ["self", "numbers"]) fun _ _ _ _ _ _ us hl => match us, hl with | [_, _], _ => rfl
  have B_isMask := D_isMask.F.binds (ps := ["mask"]) fun _ _ _ _ _ _ us hl => match us, hl with | [_], _ => rfl
  have B_isRight := D_isRight.F.binds (ps := ["self"]) fun _ _ _ _ _ _ us hl => match us, hl with | [_], _ => rfl
  have B_dInit := D_dInit.binds (ps := ["self"]) fun _ _ _ _ _ _ us hl => match us, hl with | [_], _ => rfl
  have B_begin := D_begin.F.binds (ps := ["self", "numbers"]) fun _ _ _ _ _ _ us hl => match us, hl with | [_, _], _ => rfl
  have B_take := D_take.F.binds (ps := ["self", "packet"]) fun _ _ _ _ _ _ us hl => match us, hl with | [_, _], _ => rfl
  have B_respond := D_respond.F.binds (ps := ["self", "call", "given"]) fun _ _ _ _ _ _ us hl => match us, hl with | [_, _, _], _ => rfl
  have B_answers := D_answers.F.binds (ps := ["calls"]) fun _ _ _ _ _ _ us hl => match us, hl with | [_], _ => rfl
  have T : ∀ base : Heap, LamX.TabB base mg cOld pTab → Txt P w K mg base ⟨cPlace, cMessage, cLender, cNet, cDesk, f_pInit, d_pInit, f_turn, d_turn, f_freeAt, d_freeAt, f_ownOf, d_ownOf, f_ownAmong, d_ownAmong, f_oldest, (PySem.W.fnOf "oldest_free" "oldest_free" (defArgs s_oldest) (defBody s_oldest) (defScope s_oldest) .none kVO docO pmO anO (.ref cOld) ctO), f_numberOf, d_numberOf, f_addressIn, d_addressIn, f_mInit, d_mInit, f_areRight, d_areRight, f_readOptions, d_readOptions, f_readMessage, d_readMessage, f_addressFor, d_addressFor, f_fourBytes, d_fourBytes, f_header, d_header, f_numberOption, d_numberOption, f_optionsOf, d_optionsOf, f_portFor, d_portFor, f_reply, d_reply, f_lInit, d_lInit, f_tick, d_tick, f_lends, d_lends, f_placeAt, d_placeAt, f_look, d_look, f_ownAt, d_ownAt, f_decline, d_decline, f_choose, d_choose, f_discover, d_discover, f_release, d_release, f_deny, d_deny, f_lend, d_lend, f_reqAgain, d_reqAgain, f_sharesNet, d_sharesNet, f_reqKnown, d_reqKnown, f_reqOffered, d_reqOffered, f_takeBack, d_takeBack, f_request, d_request, f_handle, d_handle, f_nInit, d_nInit, f_isMask, d_isMask, f_isRight, d_isRight, f_dInit, d_dInit, f_begin, d_begin, f_take, d_take, f_respond, d_respond, fa, d_answers, kCOOKIE, kLENGTHS, cOld, pTab⟩ := fun base tb => ⟨hL, D_Place.c, D_Place.k, D_Place.g, n_Place_address, n_Place_state, n_Place_till, n_Place_owner, D_Message.c, D_Message.k, D_Message.g, n_Message_number, n_Message_flags, n_Message_client, n_Message_relay, n_Message_machine, n_Message_kind, n_Message_wanted, n_Message_server, n_Message_identifier, n_Message_who, D_Lender.c, D_Lender.k, D_Lender.g, n_Lender_net, n_Lender_now, n_Lender_places, D_Net.c, D_Net.k, D_Net.g, n_Net_server, n_Net_mask, n_Net_way_out, n_Net_names, n_Net_first, n_Net_how_many, n_Net_how_long, n_Net_last, D_Desk.c, D_Desk.k, D_Desk.g, n_Desk_lender, D_pInit, B_pInit, D_turn.F, B_turn, D_turn.m, D_freeAt.F, B_freeAt, D_freeAt.m, D_ownOf.F, B_ownOf, D_ownOf.m, D_ownAmong.F, B_ownAmong, D_ownAmong.g, FO, B_oldest, PySem.W.mg_of X G aO, D_numberOf.F, B_numberOf, D_numberOf.g, D_addressIn.F, B_addressIn, D_addressIn.g, D_mInit, B_mInit, D_areRight.F, B_areRight, D_areRight.g, D_readOptions.F, B_readOptions, D_readOptions.g, D_readMessage.F, B_readMessage, D_readMessage.g, D_addressFor.F, B_addressFor, D_addressFor.g, D_fourBytes.F, B_fourBytes, D_fourBytes.g, D_header.F, B_header, D_header.g, D_numberOption.F, B_numberOption, D_numberOption.g, D_optionsOf.F, B_optionsOf, D_optionsOf.g, D_portFor.F, B_portFor, D_portFor.g, D_reply.F, B_reply, D_reply.g, D_lInit, B_lInit, D_tick.F, B_tick, D_tick.m, D_lends.F, B_lends, D_lends.m, D_placeAt.F, B_placeAt, D_placeAt.m, D_look.F, B_look, D_look.m, D_ownAt.F, B_ownAt, D_ownAt.m, D_decline.F, B_decline, D_decline.m, D_choose.F, B_choose, D_choose.m, D_discover.F, B_discover, D_discover.m, D_release.F, B_release, D_release.m, D_deny.F, B_deny, D_deny.m, D_lend.F, B_lend, D_lend.m, D_reqAgain.F, B_reqAgain, D_reqAgain.m, D_sharesNet.F, B_sharesNet, D_sharesNet.m, D_reqKnown.F, B_reqKnown, D_reqKnown.m, D_reqOffered.F, B_reqOffered, D_reqOffered.m, D_takeBack.F, B_takeBack, D_takeBack.m, D_request.F, B_request, D_request.m, D_handle.F, B_handle, D_handle.m, D_nInit, B_nInit, D_isMask.F, B_isMask, D_isMask.g, D_isRight.F, B_isRight, D_isRight.m, D_dInit, B_dInit, D_begin.F, B_begin, D_begin.m, D_take.F, B_take, D_take.m, D_respond.F, B_respond, D_respond.m, D_answers.F, B_answers, D_answers.g, c_FREE, c_OFFERED, c_LENT, c_REFUSED, c_COOKIE_AT, c_OPTIONS_AT, c_SMALLEST, c_LARGEST, c_FILLING, c_WANTED, c_OVERLOAD, c_KIND, c_SERVER, c_IDENTIFIER, c_END, c_OFFER, c_ACK, c_NAK, c_EVERYBODY, c_BROADCAST_FLAGS, c_RELAY_PORT, c_CLIENT_PORT, c_LEAST_BYTES, c_DISCOVER, c_REQUEST, c_DECLINE, c_RELEASE, c_INFORM, c_OFFER_SECONDS, c_REFUSED_SECONDS, c_ALL_ONES, c_MOST_PLACES, c_SHORTEST_LOAN, c_LONGEST_LOAN, c_OPEN, c_PACKET, c_TICK, c_MOST_BYTES, PySem.W.mg_of X G aK, PySem.W.mg_of X G aL, PySem.W.mg_none_of X G b_len, PySem.W.mg_none_of X G b_max, PySem.W.mg_none_of X G b_any, PySem.W.mg_none_of X G b_list, PySem.W.mg_none_of X G b_min, PySem.W.mg_none_of X G b_range, hK, tb, ⟨_, _, _, _, _, _, _, _, rfl, lO, cO⟩⟩
  obtain ⟨oc, od, kV, doc, pm, an, cdv, ct, osl, efd, lk, hcd⟩ := D_answers.F.ex
  refine ⟨d_answers, cOld, pTab, sp_answers K P w ⟨cPlace, cMessage, cLender, cNet, cDesk, f_pInit, d_pInit, f_turn, d_turn, f_freeAt, d_freeAt, f_ownOf, d_ownOf, f_ownAmong, d_ownAmong, f_oldest, (PySem.W.fnOf "oldest_free" "oldest_free" (defArgs s_oldest) (defBody s_oldest) (defScope s_oldest) .none kVO docO pmO anO (.ref cOld) ctO), f_numberOf, d_numberOf, f_addressIn, d_addressIn, f_mInit, d_mInit, f_areRight, d_areRight, f_readOptions, d_readOptions, f_readMessage, d_readMessage, f_addressFor, d_addressFor, f_fourBytes, d_fourBytes, f_header, d_header, f_numberOption, d_numberOption, f_optionsOf, d_optionsOf, f_portFor, d_portFor, f_reply, d_reply, f_lInit, d_lInit, f_tick, d_tick, f_lends, d_lends, f_placeAt, d_placeAt, f_look, d_look, f_ownAt, d_ownAt, f_decline, d_decline, f_choose, d_choose, f_discover, d_discover, f_release, d_release, f_deny, d_deny, f_lend, d_lend, f_reqAgain, d_reqAgain, f_sharesNet, d_sharesNet, f_reqKnown, d_reqKnown, f_reqOffered, d_reqOffered, f_takeBack, d_takeBack, f_request, d_request, f_handle, d_handle, f_nInit, d_nInit, f_isMask, d_isMask, f_isRight, d_isRight, f_dInit, d_dInit, f_begin, d_begin, f_take, d_take, f_respond, d_respond, fa, d_answers, kCOOKIE, kLENGTHS, cOld, pTab⟩, tabIn_of aO lO rfl lC pC, fun s us hu => ?_, fun H l ns Q E hT hl h1 h2 h3 k => ⟨l, ns, rfl, hl, h1, h2, h3, LamX.TabS.nil hT, k⟩, fun base _ _ tb => ok_answers (T base tb)⟩
  rw [efd]
  exact match us, hu with | [_], _ => .of_eq rfl
end Lp
open PySem PySem.W PyProof.Rows
set_option maxRecDepth 100000 in
set_option maxHeartbeats 0 in
theorem PySem.Challenge.cw_lentplaces_s01_answers_holds : PySem.Challenge.rw_lentplaces_s01_answers.Holds := by
  w_on; k_headS
  case hw =>
    exact ⟨[.list [.int 0, .int 7, .int 0, .int 0, .int 0, .int 0, .int 0, .int 0, .int 0]], by decide +kernel, by decide +kernel⟩
  k_fillS
  refine Lp.walk_specT (r := PySem.Challenge.rw_lentplaces_s01_answers) (k := 11) (ps := ["calls"]) (x := "oldest_free") (by decide +kernel) rfl rfl ⟨rfl, by decide, by decide⟩ (by decide +kernel) (fun w => rfl) (fun w h Y => PySem.W.kIn_of Y) ?F
  intro w mg fa h KY KX G hmg

  refine' Lp.s_end (Lp.all_mk KX G hmg
    (Lp.cd_mk KX G ?a_Place ?pg_Place ?hd_Place ?po_Place ?sa_Place ?mk_Place ?kc_Place ?fi_Place ?ff_Place)
    (Lp.cd_mk KX G ?a_Message ?pg_Message ?hd_Message ?po_Message ?sa_Message ?mk_Message ?kc_Message ?fi_Message ?ff_Message)
    (Lp.cd_mk KX G ?a_Lender ?pg_Lender ?hd_Lender ?po_Lender ?sa_Lender ?mk_Lender ?kc_Lender ?fi_Lender ?ff_Lender)
    (Lp.cd_mk KX G ?a_Net ?pg_Net ?hd_Net ?po_Net ?sa_Net ?mk_Net ?kc_Net ?fi_Net ?ff_Net)
    (Lp.cd_mk KX G ?a_Desk ?pg_Desk ?hd_Desk ?po_Desk ?sa_Desk ?mk_Desk ?kc_Desk ?fi_Desk ?ff_Desk)
    ?n_Place_address
    ?n_Place_state
    ?n_Place_till
    ?n_Place_owner
    ?n_Message_number
    ?n_Message_flags
    ?n_Message_client
    ?n_Message_relay
    ?n_Message_machine
    ?n_Message_kind
    ?n_Message_wanted
    ?n_Message_server
    ?n_Message_identifier
    ?n_Message_who
    ?n_Lender_net
    ?n_Lender_now
    ?n_Lender_places
    ?n_Net_server
    ?n_Net_mask
    ?n_Net_way_out
    ?n_Net_names
    ?n_Net_first
    ?n_Net_how_many
    ?n_Net_how_long
    ?n_Net_last
    ?n_Desk_lender
    (L2.fun_mk ?l_pInit ?c_pInit ?k_pInit)
    (Lp.md_mk ?a_turn ?i_turn ?l_turn ?c_turn ?k_turn)
    (Lp.md_mk ?a_freeAt ?i_freeAt ?l_freeAt ?c_freeAt ?k_freeAt)
    (Lp.md_mk ?a_ownOf ?i_ownOf ?l_ownOf ?c_ownOf ?k_ownOf)
    (Lp.gd_mk KX G ?a_ownAmong ?l_ownAmong ?c_ownAmong ?k_ownAmong)
    ?aO ?lO ?cO ?kO ?lC ?pC
    (Lp.gd_mk KX G ?a_numberOf ?l_numberOf ?c_numberOf ?k_numberOf)
    (Lp.gd_mk KX G ?a_addressIn ?l_addressIn ?c_addressIn ?k_addressIn)
    (L2.fun_mk ?l_mInit ?c_mInit ?k_mInit)
    (Lp.gd_mk KX G ?a_areRight ?l_areRight ?c_areRight ?k_areRight)
    (Lp.gd_mk KX G ?a_readOptions ?l_readOptions ?c_readOptions ?k_readOptions)
    (Lp.gd_mk KX G ?a_readMessage ?l_readMessage ?c_readMessage ?k_readMessage)
    (Lp.gd_mk KX G ?a_addressFor ?l_addressFor ?c_addressFor ?k_addressFor)
    (Lp.gd_mk KX G ?a_fourBytes ?l_fourBytes ?c_fourBytes ?k_fourBytes)
    (Lp.gd_mk KX G ?a_header ?l_header ?c_header ?k_header)
    (Lp.gd_mk KX G ?a_numberOption ?l_numberOption ?c_numberOption ?k_numberOption)
    (Lp.gd_mk KX G ?a_optionsOf ?l_optionsOf ?c_optionsOf ?k_optionsOf)
    (Lp.gd_mk KX G ?a_portFor ?l_portFor ?c_portFor ?k_portFor)
    (Lp.gd_mk KX G ?a_reply ?l_reply ?c_reply ?k_reply)
    (L2.fun_mk ?l_lInit ?c_lInit ?k_lInit)
    (Lp.md_mk ?a_tick ?i_tick ?l_tick ?c_tick ?k_tick)
    (Lp.md_mk ?a_lends ?i_lends ?l_lends ?c_lends ?k_lends)
    (Lp.md_mk ?a_placeAt ?i_placeAt ?l_placeAt ?c_placeAt ?k_placeAt)
    (Lp.md_mk ?a_look ?i_look ?l_look ?c_look ?k_look)
    (Lp.md_mk ?a_ownAt ?i_ownAt ?l_ownAt ?c_ownAt ?k_ownAt)
    (Lp.md_mk ?a_decline ?i_decline ?l_decline ?c_decline ?k_decline)
    (Lp.md_mk ?a_choose ?i_choose ?l_choose ?c_choose ?k_choose)
    (Lp.md_mk ?a_discover ?i_discover ?l_discover ?c_discover ?k_discover)
    (Lp.md_mk ?a_release ?i_release ?l_release ?c_release ?k_release)
    (Lp.md_mk ?a_deny ?i_deny ?l_deny ?c_deny ?k_deny)
    (Lp.md_mk ?a_lend ?i_lend ?l_lend ?c_lend ?k_lend)
    (Lp.md_mk ?a_reqAgain ?i_reqAgain ?l_reqAgain ?c_reqAgain ?k_reqAgain)
    (Lp.md_mk ?a_sharesNet ?i_sharesNet ?l_sharesNet ?c_sharesNet ?k_sharesNet)
    (Lp.md_mk ?a_reqKnown ?i_reqKnown ?l_reqKnown ?c_reqKnown ?k_reqKnown)
    (Lp.md_mk ?a_reqOffered ?i_reqOffered ?l_reqOffered ?c_reqOffered ?k_reqOffered)
    (Lp.md_mk ?a_takeBack ?i_takeBack ?l_takeBack ?c_takeBack ?k_takeBack)
    (Lp.md_mk ?a_request ?i_request ?l_request ?c_request ?k_request)
    (Lp.md_mk ?a_handle ?i_handle ?l_handle ?c_handle ?k_handle)
    (L2.fun_mk ?l_nInit ?c_nInit ?k_nInit)
    (Lp.gd_mk KX G ?a_isMask ?l_isMask ?c_isMask ?k_isMask)
    (Lp.md_mk ?a_isRight ?i_isRight ?l_isRight ?c_isRight ?k_isRight)
    (L2.fun_mk ?l_dInit ?c_dInit ?k_dInit)
    (Lp.md_mk ?a_begin ?i_begin ?l_begin ?c_begin ?k_begin)
    (Lp.md_mk ?a_take ?i_take ?l_take ?c_take ?k_take)
    (Lp.md_mk ?a_respond ?i_respond ?l_respond ?c_respond ?k_respond)
    (Lp.gd_mk KX G ?a_answers ?l_answers ?c_answers ?k_answers)
    ?b_len
    ?b_max
    ?b_any
    ?b_list
    ?b_min
    ?b_range
    ?cs ?aK ?aL (Lp.sqT4_of ?lK) (Lp.lens_mk ?lD ?hs ?lT0 ?lT1 ?lT2 ?lT3 ?lT4 ?lT5 ?lT6)) ?S
  (case a_Place => k_is)
  (case pg_Place => k_is)
  (case hd_Place => k_is)
  (case po_Place => k_is)
  (case sa_Place => k_is)
  (case mk_Place => k_is)
  (case kc_Place => k_is)
  (case fi_Place => k_is)
  (case ff_Place => k_is)
  (case a_Message => k_is)
  (case pg_Message => k_is)
  (case hd_Message => k_is)
  (case po_Message => k_is)
  (case sa_Message => k_is)
  (case mk_Message => k_is)
  (case kc_Message => k_is)
  (case fi_Message => k_is)
  (case ff_Message => k_is)
  (case a_Lender => k_is)
  (case pg_Lender => k_is)
  (case hd_Lender => k_is)
  (case po_Lender => k_is)
  (case sa_Lender => k_is)
  (case mk_Lender => k_is)
  (case kc_Lender => k_is)
  (case fi_Lender => k_is)
  (case ff_Lender => k_is)
  (case a_Net => k_is)
  (case pg_Net => k_is)
  (case hd_Net => k_is)
  (case po_Net => k_is)
  (case sa_Net => k_is)
  (case mk_Net => k_is)
  (case kc_Net => k_is)
  (case fi_Net => k_is)
  (case ff_Net => k_is)
  (case a_Desk => k_is)
  (case pg_Desk => k_is)
  (case hd_Desk => k_is)
  (case po_Desk => k_is)
  (case sa_Desk => k_is)
  (case mk_Desk => k_is)
  (case kc_Desk => k_is)
  (case fi_Desk => k_is)
  (case ff_Desk => k_is)
  (case n_Place_address => k_is)
  (case n_Place_state => k_is)
  (case n_Place_till => k_is)
  (case n_Place_owner => k_is)
  (case n_Message_number => k_is)
  (case n_Message_flags => k_is)
  (case n_Message_client => k_is)
  (case n_Message_relay => k_is)
  (case n_Message_machine => k_is)
  (case n_Message_kind => k_is)
  (case n_Message_wanted => k_is)
  (case n_Message_server => k_is)
  (case n_Message_identifier => k_is)
  (case n_Message_who => k_is)
  (case n_Lender_net => k_is)
  (case n_Lender_now => k_is)
  (case n_Lender_places => k_is)
  (case n_Net_server => k_is)
  (case n_Net_mask => k_is)
  (case n_Net_way_out => k_is)
  (case n_Net_names => k_is)
  (case n_Net_first => k_is)
  (case n_Net_how_many => k_is)
  (case n_Net_how_long => k_is)
  (case n_Net_last => k_is)
  (case n_Desk_lender => k_is)
  (case l_pInit => k_is)
  (case c_pInit => k_is)
  (case k_pInit => k_is)
  (case a_turn => k_is)
  (case i_turn => k_is)
  (case l_turn => k_is)
  (case c_turn => k_is)
  (case k_turn => k_is)
  (case a_freeAt => k_is)
  (case i_freeAt => k_is)
  (case l_freeAt => k_is)
  (case c_freeAt => k_is)
  (case k_freeAt => k_is)
  (case a_ownOf => k_is)
  (case i_ownOf => k_is)
  (case l_ownOf => k_is)
  (case c_ownOf => k_is)
  (case k_ownOf => k_is)
  (case a_ownAmong => k_is)
  (case l_ownAmong => k_is)
  (case c_ownAmong => k_is)
  (case k_ownAmong => k_is)
  (case aO => k_is)
  (case lO => k_is)
  (case cO => k_is)
  (case kO => k_is)
  (case lC => k_is)
  (case pC => exact rfl)
  (case a_numberOf => k_is)
  (case l_numberOf => k_is)
  (case c_numberOf => k_is)
  (case k_numberOf => k_is)
  (case a_addressIn => k_is)
  (case l_addressIn => k_is)
  (case c_addressIn => k_is)
  (case k_addressIn => k_is)
  (case l_mInit => k_is)
  (case c_mInit => k_is)
  (case k_mInit => k_is)
  (case a_areRight => k_is)
  (case l_areRight => k_is)
  (case c_areRight => k_is)
  (case k_areRight => k_is)
  (case a_readOptions => k_is)
  (case l_readOptions => k_is)
  (case c_readOptions => k_is)
  (case k_readOptions => k_is)
  (case a_readMessage => k_is)
  (case l_readMessage => k_is)
  (case c_readMessage => k_is)
  (case k_readMessage => k_is)
  (case a_addressFor => k_is)
  (case l_addressFor => k_is)
  (case c_addressFor => k_is)
  (case k_addressFor => k_is)
  (case a_fourBytes => k_is)
  (case l_fourBytes => k_is)
  (case c_fourBytes => k_is)
  (case k_fourBytes => k_is)
  (case a_header => k_is)
  (case l_header => k_is)
  (case c_header => k_is)
  (case k_header => k_is)
  (case a_numberOption => k_is)
  (case l_numberOption => k_is)
  (case c_numberOption => k_is)
  (case k_numberOption => k_is)
  (case a_optionsOf => k_is)
  (case l_optionsOf => k_is)
  (case c_optionsOf => k_is)
  (case k_optionsOf => k_is)
  (case a_portFor => k_is)
  (case l_portFor => k_is)
  (case c_portFor => k_is)
  (case k_portFor => k_is)
  (case a_reply => k_is)
  (case l_reply => k_is)
  (case c_reply => k_is)
  (case k_reply => k_is)
  (case l_lInit => k_is)
  (case c_lInit => k_is)
  (case k_lInit => k_is)
  (case a_tick => k_is)
  (case i_tick => k_is)
  (case l_tick => k_is)
  (case c_tick => k_is)
  (case k_tick => k_is)
  (case a_lends => k_is)
  (case i_lends => k_is)
  (case l_lends => k_is)
  (case c_lends => k_is)
  (case k_lends => k_is)
  (case a_placeAt => k_is)
  (case i_placeAt => k_is)
  (case l_placeAt => k_is)
  (case c_placeAt => k_is)
  (case k_placeAt => k_is)
  (case a_look => k_is)
  (case i_look => k_is)
  (case l_look => k_is)
  (case c_look => k_is)
  (case k_look => k_is)
  (case a_ownAt => k_is)
  (case i_ownAt => k_is)
  (case l_ownAt => k_is)
  (case c_ownAt => k_is)
  (case k_ownAt => k_is)
  (case a_decline => k_is)
  (case i_decline => k_is)
  (case l_decline => k_is)
  (case c_decline => k_is)
  (case k_decline => k_is)
  (case a_choose => k_is)
  (case i_choose => k_is)
  (case l_choose => k_is)
  (case c_choose => k_is)
  (case k_choose => k_is)
  (case a_discover => k_is)
  (case i_discover => k_is)
  (case l_discover => k_is)
  (case c_discover => k_is)
  (case k_discover => k_is)
  (case a_release => k_is)
  (case i_release => k_is)
  (case l_release => k_is)
  (case c_release => k_is)
  (case k_release => k_is)
  (case a_deny => k_is)
  (case i_deny => k_is)
  (case l_deny => k_is)
  (case c_deny => k_is)
  (case k_deny => k_is)
  (case a_lend => k_is)
  (case i_lend => k_is)
  (case l_lend => k_is)
  (case c_lend => k_is)
  (case k_lend => k_is)
  (case a_reqAgain => k_is)
  (case i_reqAgain => k_is)
  (case l_reqAgain => k_is)
  (case c_reqAgain => k_is)
  (case k_reqAgain => k_is)
  (case a_sharesNet => k_is)
  (case i_sharesNet => k_is)
  (case l_sharesNet => k_is)
  (case c_sharesNet => k_is)
  (case k_sharesNet => k_is)
  (case a_reqKnown => k_is)
  (case i_reqKnown => k_is)
  (case l_reqKnown => k_is)
  (case c_reqKnown => k_is)
  (case k_reqKnown => k_is)
  (case a_reqOffered => k_is)
  (case i_reqOffered => k_is)
  (case l_reqOffered => k_is)
  (case c_reqOffered => k_is)
  (case k_reqOffered => k_is)
  (case a_takeBack => k_is)
  (case i_takeBack => k_is)
  (case l_takeBack => k_is)
  (case c_takeBack => k_is)
  (case k_takeBack => k_is)
  (case a_request => k_is)
  (case i_request => k_is)
  (case l_request => k_is)
  (case c_request => k_is)
  (case k_request => k_is)
  (case a_handle => k_is)
  (case i_handle => k_is)
  (case l_handle => k_is)
  (case c_handle => k_is)
  (case k_handle => k_is)
  (case l_nInit => k_is)
  (case c_nInit => k_is)
  (case k_nInit => k_is)
  (case a_isMask => k_is)
  (case l_isMask => k_is)
  (case c_isMask => k_is)
  (case k_isMask => k_is)
  (case a_isRight => k_is)
  (case i_isRight => k_is)
  (case l_isRight => k_is)
  (case c_isRight => k_is)
  (case k_isRight => k_is)
  (case l_dInit => k_is)
  (case c_dInit => k_is)
  (case k_dInit => k_is)
  (case a_begin => k_is)
  (case i_begin => k_is)
  (case l_begin => k_is)
  (case c_begin => k_is)
  (case k_begin => k_is)
  (case a_take => k_is)
  (case i_take => k_is)
  (case l_take => k_is)
  (case c_take => k_is)
  (case k_take => k_is)
  (case a_respond => k_is)
  (case i_respond => k_is)
  (case l_respond => k_is)
  (case c_respond => k_is)
  (case k_respond => k_is)
  (case a_answers => k_is)
  (case l_answers => k_is)
  (case c_answers => k_is)
  (case k_answers => k_is)
  (case b_len => k_is)
  (case b_max => k_is)
  (case b_any => k_is)
  (case b_list => k_is)
  (case b_min => k_is)
  (case b_range => k_is)
  (case cs => exact rfl)
  (case aK => k_is)
  (case aL => k_is)
  (case lK => k_is)
  (case lD => k_is)
  (case hs => exact rfl)
  (case lT0 => k_is)
  (case lT1 => k_is)
  (case lT2 => k_is)
  (case lT3 => k_is)
  (case lT4 => k_is)
  (case lT5 => k_is)
  (case lT6 => k_is)
  case S =>
    intro sp T hsp H0 H xs a h0 hT hwi hask hx
    cases hx with
    | cons h1 h2 =>
      cases h2
      cases h1 with
      | lst hs ha =>
        have e := L2.ints_dw a.1 _ ha
        subst e
        have q : ((Codec.inLen 0 30000 a.1 && a.1.all (Codec.inInt 0 4294967295)) && true) = true := hwi
        rw [Bool.and_eq_true, Bool.and_eq_true] at q
        exact hsp H _ a.1 _ _ hT (Evl.ex_l h0 hs) (Codec.inNat_iff.mp q.1.1).2 (fun x hx => (Lp.inInt_low (List.all_eq_true.mp q.1.2 x hx))) hask fun H' p hp => .lst (L2.SqL.of hp) (L2.dw_ints _)
