package wal

import (
	"math"
	"slices"
	"strings"
	"testing"

	"tenure/api"
	"tenure/plain"
)

// die: numbers that look drawn, the same each time.
type die uint64

func (d *die) below(most int) int {
	*d = *d*6364136223846793005 + 1442695040888963407
	return int(uint64(*d>>11) % uint64(most))
}

// open opens a disk.
func open(t *testing.T, d *Disk) *Wal {
	t.Helper()
	w, err := Open(d)
	if err != nil || w == nil {
		t.Fatalf("Open is %v, %v", w, err)
	}
	return w
}

// adds: Add tells that error (OK: none), without a place.
func adds(t *testing.T, w *Wal, r Record, torn int, want api.Errno) {
	t.Helper()
	err := w.Add(r, torn)
	if e, bare := plain.Bare(err); e != want || !bare || (err == nil) != (want == api.OK) {
		t.Fatalf("Add(%v, %d) is %v, not %v", r, torn, err, want)
	}
}

// has: these are its records, and whether it is down.
func has(t *testing.T, w *Wal, down bool, want ...Record) {
	t.Helper()
	if l := w.Records(); !slices.Equal(l, want) || w.Down() != down {
		t.Fatalf("it has %v, down: %v; not %v, %v", l, w.Down(), want, down)
	}
}

// long, short, epoch: records of each kind.
func long(n int) Record {
	return Record{Client: api.MaxTime, Number: n, Object: api.MaxObjects - 1, Version: api.MaxTime, Data: strings.Repeat("\xff", api.MaxData)}
}

func short(n int) Record { return Record{Client: 1, Number: n, Object: 2, Version: 3, Data: "a"} }

func epoch(n int) Record { return Record{Object: -1, Epoch: n} }

func TestEmpty(t *testing.T) {
	var d Disk
	has(t, open(t, &d), false)
	has(t, open(t, &d), false)
}

func TestNoDisk(t *testing.T) {
	w, err := Open(nil)
	if e, bare := plain.Bare(err); w != nil || e != api.ErrMissing || !bare {
		t.Errorf("Open(nil) is %v, %v", w, err)
	}
}

func TestAdd(t *testing.T) {
	var d Disk
	w := open(t, &d)
	adds(t, w, short(1), 5, api.OK) // with power torn says nothing
	has(t, w, false, short(1))
	adds(t, w, epoch(7), -1, api.OK)
	adds(t, w, short(1), 0, api.OK)
	adds(t, w, long(2), math.MaxInt, api.OK)
	want := []Record{short(1), epoch(7), short(1), long(2)}
	has(t, w, false, want...)
	has(t, open(t, &d), false, want...)
}

// TestMayBe: each number at its edges, and what is left out of an epoch's record.
func TestMayBe(t *testing.T) {
	may := []Record{
		{}, short(0), long(api.MaxTime), epoch(0), epoch(1), epoch(api.MaxTime),
		{Client: api.MaxTime}, {Number: api.MaxTime}, {Version: api.MaxTime},
		{Object: api.MaxObjects - 1}, {Data: "\x00\xff\n"}, {Data: strings.Repeat("\x00", api.MaxData)},
	}
	var d Disk
	w := open(t, &d)
	for _, r := range may {
		adds(t, w, r, 0, api.OK)
	}
	no := []Record{
		{Client: -1}, {Client: api.MaxTime + 1}, {Number: -1}, {Number: api.MaxTime + 1},
		{Version: -1}, {Version: api.MaxTime + 1}, {Object: api.MaxObjects}, {Object: -2},
		{Client: math.MinInt}, {Number: math.MaxInt}, {Version: math.MinInt}, {Object: math.MaxInt}, {Object: math.MinInt},
		{Data: strings.Repeat("a", api.MaxData+1)}, {Data: strings.Repeat("a", 300)},
		{Epoch: 1}, {Epoch: -1}, {Client: 1, Epoch: api.MaxTime},
		epoch(-1), epoch(api.MaxTime + 1), epoch(math.MinInt), epoch(math.MaxInt),
		{Object: -1, Client: 1}, {Object: -1, Number: 1}, {Object: -1, Version: 1}, {Object: -1, Data: "a"},
		{Object: -1, Client: -1, Epoch: 4}, {Object: -1, Data: "\x00", Epoch: 4},
	}
	for _, r := range no {
		adds(t, w, r, 3, api.ErrArg)
	}
	has(t, w, false, may...)
	has(t, open(t, &d), false, may...)
}

// TestCut: the power goes off behind so many records that are written, no other calls count.
func TestCut(t *testing.T) {
	for many := range 4 {
		var d Disk
		w := open(t, &d)
		d.Cut(many)
		var want []Record
		for i := range many {
			adds(t, w, short(-1), 0, api.ErrArg)
			w = open(t, &d)
			adds(t, w, short(i), 9, api.OK)
			want = append(want, short(i))
		}
		has(t, w, false, want...)
		adds(t, w, short(9), 2, api.ErrDevice)
		has(t, w, true, want...)
		adds(t, w, short(9), 2, api.ErrState)
		has(t, w, true, want...)
	}
}

// TestStaysOff: without power a disk is read, and not written, by whoever opens it.
func TestStaysOff(t *testing.T) {
	var d Disk
	adds(t, open(t, &d), short(1), 0, api.OK)
	d.Cut(0)
	for range 3 {
		w := open(t, &d)
		has(t, w, false, short(1))
		adds(t, w, short(2), 4, api.ErrDevice)
		has(t, w, true, short(1))
	}
}

// TestPower: a later Cut stands in an earlier one's place; who is down stays so.
func TestPower(t *testing.T) {
	var d Disk
	w := open(t, &d)
	d.Cut(0)
	d.Cut(-1)
	adds(t, w, short(1), 0, api.OK)
	d.Cut(0)
	d.Cut(1)
	adds(t, w, short(2), 0, api.OK)
	adds(t, w, short(3), 0, api.ErrDevice)
	d.Cut(math.MinInt)
	adds(t, w, short(4), 0, api.ErrState)
	has(t, w, true, short(1), short(2))
	w = open(t, &d)
	d.Cut(math.MaxInt)
	for i := range 5 {
		adds(t, w, epoch(i), 0, api.OK)
	}
	has(t, w, false, short(1), short(2), epoch(0), epoch(1), epoch(2), epoch(3), epoch(4))
}

// TestOrder: of several errors the one told first is answered.
func TestOrder(t *testing.T) {
	var d Disk
	w := open(t, &d)
	d.Cut(0)
	adds(t, w, Record{Epoch: 1}, 0, api.ErrArg)
	has(t, w, false)
	adds(t, w, Record{}, 0, api.ErrDevice)
	adds(t, w, Record{Epoch: 1}, 0, api.ErrState)
}

// TestFull: with MaxLog records none more is written, with power or without.
func TestFull(t *testing.T) {
	var d Disk
	w := open(t, &d)
	d.Cut(api.MaxLog)
	var want []Record
	for i := range api.MaxLog {
		adds(t, w, long(i), 0, api.OK)
		want = append(want, long(i))
	}
	for _, power := range []int{0, -1} {
		d.Cut(power)
		adds(t, w, Record{Epoch: 1}, 7, api.ErrArg)
		adds(t, w, short(1), 7, api.ErrFull)
		has(t, w, false, want...)
		w = open(t, &d)
		has(t, w, false, want...)
	}
}

// TestLastPlace: a disk whose last place is torn is not full.
func TestLastPlace(t *testing.T) {
	var d Disk
	w := open(t, &d)
	for i := range api.MaxLog - 1 {
		adds(t, w, short(i), 0, api.OK)
	}
	d.Cut(0)
	adds(t, w, long(1), math.MaxInt, api.ErrDevice)
	w = open(t, &d)
	if len(w.Records()) != api.MaxLog-1 {
		t.Fatalf("%d records", len(w.Records()))
	}
	d.Cut(-1)
	adds(t, w, epoch(5), 0, api.OK)
	adds(t, w, epoch(6), 0, api.ErrFull)
	l := open(t, &d).Records()
	if len(l) != api.MaxLog || l[api.MaxLog-1] != epoch(5) {
		t.Fatalf("%d records, the last one %v", len(l), l[len(l)-1])
	}
}

// tears are all numbers of bytes that may be torn, and some that may not.
func tears() []int {
	l := []int{math.MinInt, -1, math.MaxInt}
	for i := range size + 2 {
		l = append(l, i)
	}
	return l
}

// TestTorn: however many bytes of a record are written it is not there, and another one may be put there.
func TestTorn(t *testing.T) {
	for _, r := range []Record{{}, short(1), long(api.MaxTime), epoch(0), epoch(api.MaxTime)} {
		for _, torn := range tears() {
			var d Disk
			adds(t, open(t, &d), short(8), 0, api.OK)
			d.Cut(0)
			adds(t, open(t, &d), r, torn, api.ErrDevice)
			has(t, open(t, &d), false, short(8))
			d.Cut(-1)
			w := open(t, &d)
			has(t, w, false, short(8))
			adds(t, w, short(9), 0, api.OK)
			has(t, w, false, short(8), short(9))
			has(t, open(t, &d), false, short(8), short(9))
		}
	}
}

// TestTornOverTorn: what two torn records leave over each other is no record, and nothing of it is left behind.
func TestTornOverTorn(t *testing.T) {
	kinds := []Record{{}, short(1), long(77), epoch(api.MaxTime)}
	for _, first := range kinds {
		for _, next := range kinds {
			for _, one := range tears() {
				for _, two := range tears() {
					var d Disk
					d.Cut(0)
					adds(t, open(t, &d), first, one, api.ErrDevice)
					adds(t, open(t, &d), next, two, api.ErrDevice)
					has(t, open(t, &d), false)
					d.Cut(-1)
					adds(t, open(t, &d), short(3), 0, api.OK)
					has(t, open(t, &d), false, short(3))
				}
			}
		}
	}
}

// TestTornIsWritten: as many bytes as are told lie on the disk, but the last one.
func TestTornIsWritten(t *testing.T) {
	for _, torn := range tears() {
		var d Disk
		d.Cut(0)
		adds(t, open(t, &d), long(math.MaxInt>>24), torn, api.ErrDevice)
		whole, n := written(long(math.MaxInt>>24)), min(max(torn, 0), size-1)
		var want place
		copy(want[:n], whole[:n])
		if d.places[0] != want || d.places[1] != (place{}) {
			t.Errorf("torn %d: %v", torn, d.places[:2])
		}
	}
}

// TestMemory: what Records tells is the caller's.
func TestMemory(t *testing.T) {
	var d Disk
	w := open(t, &d)
	adds(t, w, short(1), 0, api.OK)
	adds(t, w, short(2), 0, api.OK)
	one, two := w.Records(), w.Records()
	clear(one[:cap(one)])
	if !slices.Equal(two, []Record{short(1), short(2)}) {
		t.Errorf("two answers share memory: %v", two)
	}
	_ = append(two[:1], short(7))
	adds(t, w, short(3), 0, api.OK)
	has(t, w, false, short(1), short(2), short(3))
	has(t, open(t, &d), false, short(1), short(2), short(3))
}

// TestTwoDisks: a disk hangs on its own calls alone.
func TestTwoDisks(t *testing.T) {
	var one, two Disk
	v, w := open(t, &one), open(t, &two)
	one.Cut(0)
	adds(t, w, short(2), 0, api.OK)
	adds(t, v, short(1), 0, api.ErrDevice)
	adds(t, w, short(3), 0, api.OK)
	has(t, open(t, &one), false)
	has(t, open(t, &two), false, short(2), short(3))
}

// model is a disk as the document tells it, and the Wal that was opened last.
type model struct {
	records []Record
	left    int // below 0: the power stays on
	down    bool
}

// add is what Add tells.
func (m *model) add(r Record, may bool) api.Errno {
	switch {
	case m.down:
		return api.ErrState
	case !may:
		return api.ErrArg
	case len(m.records) == api.MaxLog:
		return api.ErrFull
	case m.left == 0:
		m.down = true
		return api.ErrDevice
	}
	m.left--
	m.records = append(m.records, r)
	return api.OK
}

// drawn is a record, and whether it may be.
func drawn(d *die) (Record, bool) {
	switch d.below(8) {
	case 0:
		return Record{Object: d.below(2) - 1, Epoch: -1 - d.below(3)}, false
	case 1:
		return Record{Number: d.below(9), Object: -1, Epoch: d.below(9), Data: "b"}, false
	case 2:
		return epoch(d.below(api.MaxTime + 1)), true
	}
	text := strings.Repeat(string([]byte{byte(d.below(256))}), d.below(api.MaxData+1))
	return Record{d.below(4), d.below(api.MaxTime + 1), d.below(api.MaxObjects), d.below(300), text, 0}, true
}

func TestAgainstModel(t *testing.T) {
	d := die(4)
	full := 0
	for range 200 {
		var x Disk
		m := model{left: -1}
		w := open(t, &x)
		calm := 10 + d.below(60)
		for range 400 {
			switch d.below(calm) {
			case 0:
				m.left = d.below(6) - 1
				x.Cut(m.left)
			case 1, 2:
				m.down = false
				w = open(t, &x)
			case 3:
				m.left, m.down = -1, false
				x.Cut(-1 - d.below(3))
				w = open(t, &x)
			default:
				r, may := drawn(&d)
				e := m.add(r, may)
				adds(t, w, r, d.below(size+4)-2, e)
				if e == api.ErrFull {
					full++
				}
			}
			has(t, w, m.down, m.records...)
		}
		has(t, open(t, &x), false, m.records...)
	}
	if full == 0 {
		t.Error("none was ever full")
	}
}
