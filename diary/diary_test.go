package diary_test

import (
	"fmt"
	"math"
	"math/rand"
	"testing"

	"wherry/api"
	"wherry/diary"
)

// rec gives a record of 104 + n bytes.
func rec(id, n int) api.Rec { return api.Rec{Kind: api.RecBounce, Id: id, Data: make([]byte, n)} }

// full gives a record with something in every field.
func full() api.Rec {
	p := api.Path{Local: "a", Domain: "b"}
	return api.Rec{Kind: 99, Id: -1, Ids: []int{1, 2}, Origin: 3, Number: 4, Offset: 5, Data: []byte{6, 7, 8}, Mail: api.Mail{From: p, To: []api.Path{p, p, p}, Body: []byte("x"), Quiet: true, Helo: "helo", At: 9}}
}

func start(t *testing.T, limit int) *diary.Diary {
	t.Helper()
	d, e := diary.New(limit)
	if e != api.OK || d == nil {
		t.Fatal(e)
	}
	return d
}

// ids gives what stands in Id of the records.
func ids(t *testing.T, d *diary.Diary) []int {
	t.Helper()
	l, e := d.Read()
	if e != api.OK {
		t.Fatal(e)
	}
	var r []int
	for _, x := range l {
		r = append(r, x.Id)
	}
	return r
}

// show writes a value so that nil and empty slices are alike.
func show(v any) string { return fmt.Sprintf("%+v", v) }

func want(t *testing.T, name string, got, wanted any) {
	t.Helper()
	if show(got) != show(wanted) {
		t.Errorf("%s: %v, not %v", name, show(got), show(wanted))
	}
}

func TestNew(t *testing.T) {
	for _, limit := range []int{0, -1, api.MaxLog + 1, math.MaxInt, math.MinInt} {
		if d, e := diary.New(limit); d != nil || e != api.ErrArg {
			t.Error(limit, d, e)
		}
	}
	for _, limit := range []int{1, api.MaxLog} {
		d := start(t, limit)
		l, e := d.Read()
		if d.Off() || d.Life() != 0 || d.Len() != 0 || d.Safe() != 0 || d.Used() != 0 || d.Kept() != 0 || len(l) != 0 || e != api.OK {
			t.Error(limit, l, e)
		}
	}
}

func TestRoom(t *testing.T) {
	p := api.Path{Local: "abc", Domain: "d"}
	for k, c := range []struct {
		r    api.Rec
		want int
	}{
		{api.Rec{}, 104}, {api.Rec{Kind: 6, Id: 7, Origin: 8, Number: 9, Offset: 10}, 104}, {rec(1, 5), 109}, {api.Rec{Ids: []int{1, 2, 3}}, 128}, {api.Rec{Mail: api.Mail{Body: make([]byte, 7)}}, 111}, {api.Rec{Mail: api.Mail{Helo: "four"}}, 108}, {api.Rec{Mail: api.Mail{From: p}}, 104}, {api.Rec{Mail: api.Mail{To: []api.Path{p, p}}}, 264}, {api.Rec{Mail: api.Mail{Quiet: true, At: 1 << 40}}, 104}, {full(), 24 + 3 + 1 + 4 + 80 + 240 + 16},
	} {
		if got := diary.Room(c.r); got != c.want {
			t.Error(k, got)
		}
	}
}

func TestExample(t *testing.T) {
	d := start(t, 1000)
	d.Put(rec(1, 0))
	d.Put(rec(2, 0))
	d.Crash(1)
	d.Start()
	want(t, "records", ids(t, d), []int{1})
}

func TestFull(t *testing.T) {
	d := start(t, 2*104+5)
	want(t, "put", d.Put(rec(1, 0)), api.OK)
	want(t, "too great", d.Put(rec(2, 6)), api.ErrFull)
	want(t, "length", d.Len(), 1)
	want(t, "used", d.Used(), 104)
	want(t, "just fits", d.Put(rec(3, 5)), api.OK)
	want(t, "used", d.Used(), 213)
	want(t, "one more", d.Put(api.Rec{}), api.ErrFull)
	want(t, "sync", d.Sync(), api.OK)
	want(t, "renew too great", d.Renew([]api.Rec{rec(4, 0), rec(5, 6)}), api.ErrFull)
	want(t, "records", ids(t, d), []int{1, 3})
	want(t, "renew", d.Renew([]api.Rec{rec(4, 0), rec(5, 5)}), api.OK)
	want(t, "records", ids(t, d), []int{4, 5})
	want(t, "safe", d.Safe(), 2)
	want(t, "used", d.Used(), 213)
	want(t, "renew empty", d.Renew(nil), api.OK)
	want(t, "used", d.Used(), 0)
}

func TestOff(t *testing.T) {
	d := start(t, 300)
	d.Put(rec(1, 0))
	d.Crash(5)
	want(t, "off", d.Off(), true)
	want(t, "put", d.Put(rec(2, 999)), api.ErrOff)
	want(t, "put", d.Put(rec(2, 0)), api.ErrOff)
	want(t, "sync", d.Sync(), api.ErrOff)
	want(t, "renew", d.Renew(nil), api.ErrOff)
	want(t, "renew too great", d.Renew([]api.Rec{rec(1, 999)}), api.ErrOff)
	l, e := d.Read()
	if len(l) != 0 || e != api.ErrOff {
		t.Error(l, e)
	}
	want(t, "length", d.Len(), 1)
	want(t, "safe", d.Safe(), 1)
	want(t, "used", d.Used(), 104)
	want(t, "kept", d.Kept(), 1)
	d.Crash(0)
	want(t, "life", d.Life(), 1)
	want(t, "kept", d.Kept(), 1)
	d.Start()
	d.Start()
	want(t, "off", d.Off(), false)
	want(t, "life", d.Life(), 1)
	want(t, "records", ids(t, d), []int{1})
}

func TestCrashKeeps(t *testing.T) {
	for _, c := range []struct{ keep, left int }{{0, 2}, {1, 3}, {2, 4}, {3, 5}, {4, 5}, {math.MaxInt, 5}, {-1, 2}, {math.MinInt, 2}} {
		d := start(t, 10000)
		for i := range 5 {
			d.Put(rec(i, i))
			if i == 1 {
				d.Sync()
			}
		}
		want(t, "safe", d.Safe(), 2)
		d.Crash(c.keep)
		d.Start()
		want(t, "records", ids(t, d), []int{0, 1, 2, 3, 4}[:c.left])
		want(t, "safe", d.Safe(), c.left)
		want(t, "kept", d.Kept(), c.left-2)
		want(t, "used", d.Used(), c.left*104+c.left*(c.left-1)/2)
	}
}

func TestKept(t *testing.T) {
	d := start(t, 10000)
	crash := func(keep int, recs ...int) {
		for _, id := range recs {
			d.Put(rec(id, 0))
		}
		d.Crash(keep)
		d.Start()
	}
	crash(1, 1, 2)
	crash(2, 3, 4)
	want(t, "kept", d.Kept(), 3)
	d.Put(rec(5, 0))
	want(t, "kept", d.Kept(), 3)
	want(t, "too great", d.Renew([]api.Rec{rec(1, 10000)}), api.ErrFull)
	want(t, "kept", d.Kept(), 3)
	d.Trip(1, 1)
	want(t, "a sync that crashes", d.Sync(), api.ErrOff)
	want(t, "kept", d.Kept(), 4)
	d.Start()
	want(t, "records", ids(t, d), []int{1, 3, 4, 5})
	d.Trip(1, 0)
	want(t, "a renew that crashes", d.Renew(nil), api.ErrOff)
	d.Start()
	want(t, "kept", d.Kept(), 4)
	want(t, "sync", d.Sync(), api.OK)
	want(t, "kept", d.Kept(), 0)
	crash(9, 6)
	want(t, "kept", d.Kept(), 1)
	want(t, "renew", d.Renew([]api.Rec{rec(7, 0)}), api.OK)
	want(t, "kept", d.Kept(), 0)
	want(t, "life", d.Life(), 5)
}

func TestTrip(t *testing.T) {
	d := start(t, 400)
	d.Trip(3, 9)
	want(t, "put", d.Put(rec(1, 0)), api.OK)
	want(t, "full", d.Put(rec(2, 400)), api.ErrFull)
	want(t, "full", d.Renew([]api.Rec{rec(2, 400)}), api.ErrFull)
	want(t, "sync", d.Sync(), api.OK)
	want(t, "full", d.Put(rec(2, 400)), api.ErrFull)
	want(t, "the third", d.Put(rec(3, 0)), api.ErrOff)
	want(t, "off", d.Off(), true)
	d.Start()
	// The record of the call that crashed was put before the crash.
	want(t, "records", ids(t, d), []int{1, 3})
	want(t, "kept", d.Kept(), 1)
	want(t, "put", d.Put(rec(4, 0)), api.OK)
	want(t, "sync", d.Sync(), api.OK)

	d.Trip(1, 0)
	d.Trip(2, 0)
	want(t, "the first of two", d.Sync(), api.OK)
	want(t, "the second of two", d.Renew(nil), api.ErrOff)
	d.Start()
	want(t, "records", ids(t, d), []int{1, 3, 4})

	for _, n := range []int{0, -1, math.MinInt} {
		d.Trip(1, 0)
		d.Trip(n, 0)
		want(t, "none armed", d.Sync(), api.OK)
	}
	// A crash disarms; a crash of a diary that is off does nothing.
	d.Trip(1, 0)
	d.Crash(0)
	d.Start()
	want(t, "disarmed", d.Sync(), api.OK)
	d.Crash(0)
	d.Trip(1, 0)
	d.Crash(0)
	d.Start()
	want(t, "still armed", d.Sync(), api.ErrOff)
	d.Start()
	want(t, "disarmed again", d.Sync(), api.OK)
	d.Crash(0)
	d.Trip(1, 0)
	want(t, "while off", d.Sync(), api.ErrOff)
	want(t, "while off", d.Put(rec(1, 0)), api.ErrOff)
	d.Start()
	want(t, "records", ids(t, d), []int{1, 3, 4})
	want(t, "observing", d.Used()+d.Len()+d.Safe()+d.Kept(), 312+3+3)
	want(t, "still armed", d.Sync(), api.ErrOff)
	d.Start()
	d.Trip(1, -7)
	want(t, "a negative keep", d.Sync(), api.ErrOff)
	d.Start()
	d.Renew(nil)
	d.Put(rec(1, 0))
	d.Trip(1, 1)
	want(t, "the crash keeps one", d.Put(rec(2, 0)), api.ErrOff)
	d.Start()
	want(t, "records", ids(t, d), []int{1})
}

// model is a second diary: the records with a mark for the synced ones.
type model struct {
	limit      int
	recs       []api.Rec
	synced     []bool
	off        bool
	life, kept int
	trip, keep int
}

func (m *model) used() int {
	n := 0
	for _, r := range m.recs {
		n += diary.Room(r)
	}
	return n
}

func (m *model) safe() int {
	n := 0
	for _, s := range m.synced {
		if s {
			n++
		}
	}
	return n
}

func (m *model) crash(keep int) {
	if m.off {
		return
	}
	var recs []api.Rec
	for i, r := range m.recs {
		if m.synced[i] || keep > 0 {
			recs = append(recs, r)
		}
		if !m.synced[i] && keep > 0 {
			keep--
			m.kept++
		}
	}
	m.recs, m.synced = recs, make([]bool, len(recs))
	for i := range m.synced {
		m.synced[i] = true
	}
	m.off, m.trip = true, 0
	m.life++
}

// good does what a call does that has no error.
func (m *model) good(effect func()) api.Errno {
	if m.trip > 0 {
		m.trip--
		if m.trip == 0 {
			m.crash(m.keep)
			return api.ErrOff
		}
	}
	effect()
	return api.OK
}

func (m *model) put(r api.Rec) api.Errno {
	if m.off {
		return api.ErrOff
	}
	if m.used()+diary.Room(r) > m.limit {
		return api.ErrFull
	}
	m.recs, m.synced = append(m.recs, r), append(m.synced, false)
	return m.good(func() {})
}

func (m *model) sync() api.Errno {
	if m.off {
		return api.ErrOff
	}
	return m.good(func() {
		m.kept = 0
		for i := range m.synced {
			m.synced[i] = true
		}
	})
}

func (m *model) renew(l []api.Rec) api.Errno {
	if m.off {
		return api.ErrOff
	}
	if (&model{recs: l}).used() > m.limit {
		return api.ErrFull
	}
	return m.good(func() {
		m.kept, m.recs, m.synced = 0, append([]api.Rec(nil), l...), make([]bool, len(l))
		for i := range m.synced {
			m.synced[i] = true
		}
	})
}

// TestLikeAModel is promises P18.1 to P18.4 with calls at random.
func TestLikeAModel(t *testing.T) {
	rnd := rand.New(rand.NewSource(1))
	for range 300 {
		limit := 300 + rnd.Intn(1500)
		d, m := start(t, limit), &model{limit: limit}
		for k := range 120 {
			var got, wanted api.Errno
			switch rnd.Intn(12) {
			case 0, 1, 2, 3:
				r := rec(k, rnd.Intn(80))
				got, wanted = d.Put(r), m.put(r)
			case 4, 5:
				got, wanted = d.Sync(), m.sync()
			case 6:
				var l []api.Rec
				for i := range rnd.Intn(12) {
					l = append(l, rec(1000+i, rnd.Intn(60)))
				}
				got, wanted = d.Renew(l), m.renew(l)
			case 7:
				keep := rnd.Intn(5) - 1
				d.Crash(keep)
				m.crash(keep)
			case 8:
				n, keep := rnd.Intn(7)-1, rnd.Intn(4)-1
				d.Trip(n, keep)
				m.trip, m.keep = max(n, 0), keep
			default:
				d.Start()
				m.off = false
			}
			if got != wanted || d.Off() != m.off || d.Life() != m.life || d.Len() != len(m.recs) || d.Safe() != m.safe() || d.Used() != m.used() || d.Kept() != m.kept {
				t.Fatal(k, got, wanted, d.Off(), d.Life(), d.Len(), d.Safe(), d.Used(), d.Kept(), m)
			}
			if l, e := d.Read(); !m.off && (e != api.OK || show(l) != show(m.recs)) {
				t.Fatal(k, l, e)
			}
		}
	}
}

// TestOwnMemory changes what goes in and what comes out.
func TestOwnMemory(t *testing.T) {
	spoil := func(r api.Rec) {
		r.Ids[0], r.Data[0], r.Mail.To[0].Local, r.Mail.Body[0] = 77, 77, "spoilt", 77
	}
	d := start(t, 10000)
	r := full()
	d.Put(r)
	spoil(r)
	l, _ := d.Read()
	want(t, "after a change of what was put", l, []api.Rec{full()})
	spoil(l[0])
	l[0].Kind = 5
	l, _ = d.Read()
	want(t, "after a change of what was read", l, []api.Rec{full()})
	renewed := []api.Rec{full(), full()}
	d.Renew(renewed)
	spoil(renewed[0])
	renewed[1].Kind = 5
	l, _ = d.Read()
	want(t, "after a change of what was renewed", l, []api.Rec{full(), full()})
	// A diary shares nothing with another one.
	other := start(t, 10000)
	other.Renew(l)
	d.Crash(0)
	want(t, "another diary", other.Off(), false)
}

// TestSyncedRecordsStay is promise P18.4.
func TestSyncedRecordsStay(t *testing.T) {
	d := start(t, 100000)
	var all []api.Rec
	for i := range 20 {
		r := full()
		r.Id = i
		all = append(all, r)
		d.Put(r)
		d.Sync()
		d.Put(rec(-1, 3))
		if i%3 == 0 {
			d.Trip(1, 0)
			d.Sync()
		}
		d.Crash(0)
		d.Start()
		l, e := d.Read()
		if e != api.OK || show(l) != show(all) {
			t.Fatal(i, l, e)
		}
	}
	want(t, "life", d.Life(), 20)
}
