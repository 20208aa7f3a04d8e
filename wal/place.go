package wal

import "tenure/api"

// Where things lie in a place: five numbers, the least byte first; how long the text is; room for the text; the mark.
const (
	width  = 8
	length = 5 * width
	text   = length + 1
	mark   = text + api.MaxData
	size   = mark + 1
)

// place has the bytes of one record. All records are of one size, and the mark is the last byte: what is torn never has it, so that a place has a record if its mark is set, whatever bytes of how many torn writes lie there over each other.
type place [size]byte

// written is a record that may be, as it lies in its place.
func written(r Record) (p place) {
	for i, n := range numbers(&r) {
		for j := range width {
			p[i*width+j] = byte(*n >> (8 * j))
		}
	}
	p[length] = byte(len(r.Data))
	for i := range len(r.Data) {
		p[text+i] = r.Data[i]
	}
	p[mark] = 1
	return p
}

// read is the record that lies in a place whose mark is set.
func read(p place) (r Record) {
	for i, n := range numbers(&r) {
		for j := range width {
			*n |= int(p[i*width+j]) << (8 * j)
		}
	}
	r.Data = string(p[text : text+int(p[length])])
	return r
}

// numbers are where a record's numbers lie, in the order in which they are written.
func numbers(r *Record) [5]*int {
	return [...]*int{&r.Client, &r.Number, &r.Object, &r.Version, &r.Epoch}
}

// many is how many records the disk has: they lie in its first places.
func (d *Disk) many() int {
	for k := range api.MaxLog {
		if d.places[k][mark] == 0 {
			return k
		}
	}
	return api.MaxLog
}

// write lays a record over what is in the k-th place; without power torn bytes of it, but never the mark. It says whether there was power.
func (d *Disk) write(k int, p place, torn int) bool {
	if d.fails && d.left == 0 {
		for i := range min(max(torn, 0), mark) {
			d.places[k][i] = p[i]
		}
		return false
	}
	if d.fails {
		d.left--
	}
	d.places[k] = p
	return true
}
