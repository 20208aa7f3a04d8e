package cache

import (
	"math"
	"slices"
	"strconv"
	"testing"

	"tenure/api"
	"tenure/plain"
)

// die: numbers that look drawn, the same each time.
type die uint64

func (d *die) below(most int) int {
	*d = *d*6364136223846793005 + 1442695040888963407
	return int(uint64(*d>>11) % uint64(most))
}

// value: that one's value, told by its version.
func value(version int) api.Value {
	return api.Value{Data: "d" + strconv.Itoa(version), Version: version}
}

// has: these are the objects, the one that was not used longest first.
func has(t *testing.T, c *Cache, want ...int) {
	t.Helper()
	if got := c.Objects(); !slices.Equal(got, want) {
		t.Fatalf("Objects is %v, not %v", got, want)
	}
}

// gets: Get answers that value, until then.
func gets(t *testing.T, c *Cache, object int, want api.Value, until int) {
	t.Helper()
	v, u, err := c.Get(object)
	if err != nil || v != want || u != until {
		t.Fatalf("Get(%d) is %v, %d, %v, not %v, %d", object, v, u, err, want, until)
	}
}

// lacks: Get answers ErrMissing alone, and changes nothing.
func lacks(t *testing.T, c *Cache, object int) {
	t.Helper()
	before := *c
	v, u, err := c.Get(object)
	if e, bare := plain.Bare(err); e != api.ErrMissing || !bare || v != (api.Value{}) || u != 0 {
		t.Fatalf("Get(%d) is %v, %d, %v", object, v, u, err)
	}
	if *c != before {
		t.Fatalf("Get(%d) has changed something", object)
	}
}

// filled: objects 0 and on, each with another value and another time.
func filled(many int) *Cache {
	c := &Cache{}
	for object := range many {
		c.Put(object, value(10+object), 100+object)
	}
	return c
}

func TestEmpty(t *testing.T) {
	var c Cache
	has(t, &c)
	for object := range api.MaxObjects {
		lacks(t, &c, object)
	}
	c.Drop(0)
	c.Clear()
	has(t, &c)
}

func TestPut(t *testing.T) {
	c := filled(3)
	has(t, c, 0, 1, 2)
	lacks(t, c, 3)
	gets(t, c, 0, value(10), 100)
	gets(t, c, 1, value(11), 101)
	gets(t, c, 2, value(12), 102)
}

func TestPutAgain(t *testing.T) {
	c := filled(3)
	c.Put(1, value(5), 7) // older, and sooner over: still what was put last
	has(t, c, 0, 2, 1)
	gets(t, c, 1, value(5), 7)
	c.Put(1, value(5), 7)
	has(t, c, 0, 2, 1)
	c.Put(0, api.Value{}, 0)
	has(t, c, 2, 1, 0)
	gets(t, c, 0, api.Value{}, 0)
	gets(t, c, 2, value(12), 102)
}

func TestGetUses(t *testing.T) {
	c := filled(4)
	gets(t, c, 0, value(10), 100)
	has(t, c, 1, 2, 3, 0)
	gets(t, c, 2, value(12), 102)
	has(t, c, 1, 3, 0, 2)
	gets(t, c, 2, value(12), 102) // it stays the last one
	has(t, c, 1, 3, 0, 2)
}

func TestMissingUsesNothing(t *testing.T) {
	c := filled(api.MaxCache)
	for _, object := range []int{-1, api.MaxCache, math.MinInt, math.MaxInt} {
		lacks(t, c, object)
	}
	has(t, c, 0, 1, 2, 3, 4, 5)
}

func TestTheOneNotUsedLongestGoes(t *testing.T) {
	c := filled(api.MaxCache)
	has(t, c, 0, 1, 2, 3, 4, 5)
	c.Put(6, value(16), 106)
	has(t, c, 1, 2, 3, 4, 5, 6)
	lacks(t, c, 0)
	gets(t, c, 1, value(11), 101)
	c.Put(3, value(3), 3)
	c.Put(0, value(0), 0)
	has(t, c, 4, 5, 6, 1, 3, 0)
	lacks(t, c, 2)
	gets(t, c, 3, value(3), 3)
	gets(t, c, 0, value(0), 0)
	gets(t, c, 6, value(16), 106)
}

func TestPutAgainWhenFull(t *testing.T) {
	for object := range api.MaxCache {
		c := filled(api.MaxCache)
		c.Put(object, value(1), 2) // nobody goes
		want := slices.DeleteFunc([]int{0, 1, 2, 3, 4, 5}, func(o int) bool { return o == object })
		has(t, c, append(want, object)...)
		gets(t, c, object, value(1), 2)
		for _, o := range want {
			gets(t, c, o, value(10+o), 100+o)
		}
	}
}

func TestManyGo(t *testing.T) {
	c := filled(1000)
	has(t, c, 994, 995, 996, 997, 998, 999)
	gets(t, c, 994, value(1004), 1094)
	lacks(t, c, 993)
}

func TestAnyNumbers(t *testing.T) {
	var c Cache
	long := api.Value{Data: string(make([]byte, 3*api.MaxData)), Version: math.MinInt}
	c.Put(-1, long, math.MinInt)
	c.Put(math.MinInt, value(-1), math.MaxInt)
	c.Put(math.MaxInt, api.Value{}, -1)
	c.Put(api.MaxObjects, value(2), api.MaxTime+1)
	has(t, &c, -1, math.MinInt, math.MaxInt, api.MaxObjects)
	gets(t, &c, -1, long, math.MinInt)
	gets(t, &c, math.MinInt, value(-1), math.MaxInt)
	gets(t, &c, math.MaxInt, api.Value{}, -1)
	gets(t, &c, api.MaxObjects, value(2), api.MaxTime+1)
	lacks(t, &c, 0) // what is not filled is no value of object 0
}

func TestDrop(t *testing.T) {
	c := filled(api.MaxCache)
	c.Drop(2)
	has(t, c, 0, 1, 3, 4, 5)
	lacks(t, c, 2)
	c.Drop(2)
	c.Drop(-1)
	c.Drop(math.MinInt)
	c.Drop(math.MaxInt)
	has(t, c, 0, 1, 3, 4, 5)
	c.Drop(5)
	c.Drop(0)
	has(t, c, 1, 3, 4)
	gets(t, c, 3, value(13), 103)
	has(t, c, 1, 4, 3) // Drop has not used anything
	c.Put(2, value(2), 2)
	c.Put(7, value(7), 7)
	c.Put(8, value(8), 8)
	has(t, c, 1, 4, 3, 2, 7, 8) // where one was dropped there is room
	gets(t, c, 2, value(2), 2)
}

func TestDropLast(t *testing.T) {
	c := filled(1)
	c.Drop(0)
	has(t, c)
	lacks(t, c, 0)
	if *c != (Cache{}) {
		t.Errorf("something of what was dropped is kept: %v", *c)
	}
}

func TestClear(t *testing.T) {
	for many := range api.MaxCache + 1 {
		c := filled(many)
		c.Clear()
		has(t, c)
		for object := range api.MaxCache {
			lacks(t, c, object)
		}
		if *c != (Cache{}) {
			t.Errorf("something of what was cleared is kept: %v", *c)
		}
		c.Put(3, value(1), 2)
		has(t, c, 3)
		gets(t, c, 3, value(1), 2)
	}
}

func TestObjectsAreFresh(t *testing.T) {
	c := filled(3)
	a, b := c.Objects(), c.Objects()
	a[0] = 9
	_ = append(a[:1], 8)
	if !slices.Equal(b, []int{0, 1, 2}) {
		t.Errorf("one list of objects is seen in another one: %v", b)
	}
	has(t, c, 0, 1, 2)
	c.Put(0, value(1), 1)
	c.Clear()
	if !slices.Equal(b, []int{0, 1, 2}) {
		t.Errorf("what is done later is seen in a list: %v", b)
	}
}

func TestTwoCaches(t *testing.T) {
	a, b := filled(4), filled(4)
	other := *a
	a.Put(0, value(1), 1)
	a.Drop(2)
	a.Put(5, value(1), 1)
	for _, c := range []*Cache{b, &other} {
		has(t, c, 0, 1, 2, 3)
		gets(t, c, 0, value(10), 100)
		gets(t, c, 2, value(12), 102)
	}
	has(t, a, 1, 3, 0, 5)
}

// model: when each object was used last, and what it has.
type model struct {
	now  int
	used map[int]use
}

type use struct {
	when  int
	value api.Value
	until int
}

// objects: sorted by when they were used.
func (m *model) objects() []int {
	var l []int
	for object := range m.used {
		l = append(l, object)
	}
	slices.SortFunc(l, func(a, b int) int { return m.used[a].when - m.used[b].when })
	return l
}

func (m *model) put(object int, v api.Value, until int) {
	m.now++
	m.used[object] = use{m.now, v, until}
	if len(m.used) > api.MaxCache {
		delete(m.used, m.objects()[0])
	}
}

// step: the same at both.
func (m *model) step(t *testing.T, c *Cache, d *die) {
	t.Helper()
	object := d.below(10) - 1
	switch k := d.below(60); {
	case k == 0:
		c.Clear()
		clear(m.used)
	case k < 8:
		c.Drop(object)
		delete(m.used, object)
	case k < 30:
		u, is := m.used[object]
		if !is {
			lacks(t, c, object)
			return
		}
		gets(t, c, object, u.value, u.until)
		m.put(object, u.value, u.until)
	default:
		v, until := value(d.below(9)), d.below(9)
		c.Put(object, v, until)
		m.put(object, v, until)
	}
}

func TestModel(t *testing.T) {
	d := die(13)
	for range 60 {
		c, m := &Cache{}, &model{used: map[int]use{}}
		for range 100 {
			m.step(t, c, &d)
			has(t, c, m.objects()...)
		}
	}
}
