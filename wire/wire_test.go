package wire_test

import (
	"bytes"
	"encoding/binary"
	"math"
	"math/rand/v2"
	"slices"
	"testing"

	"seneschal/api"
	"seneschal/wire"
)

const (
	most  = 4096 // bytes
	items = 256
)

// drawn answers n bytes, the same each time.
func drawn(seed uint64, n int) []byte {
	r := rand.New(rand.NewPCG(seed, 8))
	b := make([]byte, n)
	for i := range b {
		b[i] = byte(r.Uint32())
	}
	return b
}

// field answers one of that tag and these bytes.
func field(tag int, b ...byte) api.Field { return api.Field{Tag: tag, Bytes: b} }

// long answers a field of n bytes.
func long(tag, n int) api.Field { return api.Field{Tag: tag, Bytes: drawn(uint64(tag), n)} }

// tagged answers fields of the tags from 1 on, with n bytes each.
func tagged(count, n int) []api.Field {
	var l []api.Field
	for i := range count {
		l = append(l, long(i+1, n))
	}
	return l
}

// members answers that many, of n bytes each.
func members(count, n int) [][]byte {
	var l [][]byte
	for i := range count {
		l = append(l, drawn(uint64(i), n))
	}
	return l
}

// part is b with its length ahead, by the library.
func part(b []byte) []byte {
	return append(binary.BigEndian.AppendUint16(nil, uint16(len(b))), b...)
}

// bytesOf is the chapter's word: a value's bytes.
func bytesOf(l []api.Field) []byte {
	var out []byte
	for _, f := range l {
		out = slices.Concat(out, []byte{byte(f.Tag)}, part(f.Bytes))
	}
	return out
}

// listOf is the chapter's word: a list's bytes.
func listOf(l [][]byte) []byte {
	var out []byte
	for _, m := range l {
		out = append(out, part(m)...)
	}
	return out
}

func sameFields(a, b []api.Field) bool {
	return slices.EqualFunc(a, b, func(x, y api.Field) bool { return x.Tag == y.Tag && bytes.Equal(x.Bytes, y.Bytes) })
}

func sameMembers(a, b [][]byte) bool { return slices.EqualFunc(a, b, bytes.Equal) }

// values answers some, the ones at the chapter's edges among them.
func values() [][]api.Field {
	out := [][]api.Field{
		nil, {}, {field(1)}, {field(255)}, {field(1, 0)}, {field(1, 7, 8), field(3)},
		{field(1), field(2), field(255, 1)}, {field(254), field(255)}, {field(127, 1), field(128, 2)},
		{field(9, 1, 0, 0)}, {field(1, 2, 0, 0), field(2)},
		{long(1, 255)}, {long(1, 256)}, {long(1, 257)}, {long(200, most-4)}, {long(200, most-3)},
		{long(1, 4000), long(2, 90)}, {long(1, 90), long(2, 4000)}, {field(7), long(255, most-6)},
		tagged(254, 1), tagged(255, 0), tagged(255, 13), append(tagged(254, 13), long(255, 29)),
	}
	r := rand.New(rand.NewPCG(1, 8))
	for range 300 {
		var l []api.Field
		for tag := r.IntN(40) + 1; tag <= 255; tag += r.IntN(60) + 1 {
			l = append(l, api.Field{Tag: tag, Bytes: drawn(r.Uint64(), r.IntN(60))})
		}
		out = append(out, l)
	}
	return out
}

// lists answers some, the ones at the chapter's edges among them.
func lists() [][][]byte {
	out := [][][]byte{
		nil, {}, {nil}, {{}}, {nil, nil}, {{5}, nil}, {nil, {5}}, {{0}, {0, 0}, {0, 1}}, {{0, 1}, {2}},
		members(1, 255), members(1, 256), members(1, 257), members(1, most-3), members(1, most-2),
		{drawn(1, 4000), drawn(2, 92)}, {drawn(1, 92), drawn(2, 4000)},
		members(255, 1), members(256, 0), members(256, 13), members(256, 14),
	}
	r := rand.New(rand.NewPCG(2, 8))
	for range 300 {
		out = append(out, members(r.IntN(40), r.IntN(80)))
	}
	return out
}

func TestExample(t *testing.T) {
	b, e := wire.Put(field(1, 7, 8), field(3))
	if want := []byte{1, 0, 2, 7, 8, 3, 0, 0}; e != api.OK || !bytes.Equal(b, want) {
		t.Errorf("%v, %v, want %v", b, e, want)
	}
}

func TestValuesArePutAndReadAsTheyWere(t *testing.T) { // 8.1, 8.3
	for _, l := range values() {
		b, e := wire.Put(l...)
		if want := bytesOf(l); e != api.OK || !bytes.Equal(b, want) {
			t.Fatalf("%d fields: %v, %v, want %v", len(l), b, e, want)
		}
		if again, e := wire.Read(b); e != api.OK || !sameFields(again, l) {
			t.Errorf("%v is read as %v, %v", b, again, e)
		}
	}
}

func TestValuesAreFullAtTheLimit(t *testing.T) { // 8.1: at most MaxBytes bytes together
	for _, l := range [][]api.Field{{long(200, most-3)}, {long(1, 4000), long(2, 90)}, append(tagged(254, 13), long(255, 29))} {
		if b, e := wire.Put(l...); e != api.OK || len(b) != most {
			t.Errorf("%d fields: %d bytes, %v", len(l), len(b), e)
		}
		last := &l[len(l)-1]
		last.Bytes = append(last.Bytes, 0)
		if b, e := wire.Put(l...); e != api.ErrLong || b != nil {
			t.Errorf("%d fields, a byte more: %d bytes, %v", len(l), len(b), e)
		}
	}
}

func TestFieldsThatAreNoValueAreNotPut(t *testing.T) { // 8.1: each error, and which comes first
	const odd = math.MaxInt32
	many := tagged(257, 0)
	manyWrong := slices.Repeat([]api.Field{long(odd, 5000)}, 257)
	for what, c := range map[string]struct {
		l []api.Field
		e api.Errno
	}{
		"tag 0":                             {[]api.Field{field(0)}, api.ErrWire},
		"tag -1":                            {[]api.Field{field(-1)}, api.ErrWire},
		"tag -255":                          {[]api.Field{field(-255)}, api.ErrWire},
		"tag 256":                           {[]api.Field{field(256)}, api.ErrWire},
		"tag 257":                           {[]api.Field{field(257)}, api.ErrWire},
		"the greatest tag":                  {[]api.Field{field(math.MaxInt)}, api.ErrWire},
		"the least tag":                     {[]api.Field{field(math.MinInt)}, api.ErrWire},
		"tags that stay":                    {[]api.Field{field(5), field(5)}, api.ErrWire},
		"tags that fall":                    {[]api.Field{field(5), field(4)}, api.ErrWire},
		"tags that fall late":               {[]api.Field{field(1), field(5), field(4)}, api.ErrWire},
		"tags that rise and fall":           {[]api.Field{field(1), field(5), field(4), field(6)}, api.ErrWire},
		"a last tag that is none":           {[]api.Field{field(1), field(256)}, api.ErrWire},
		"a second tag that is 0":            {[]api.Field{field(1), field(0)}, api.ErrWire},
		"255 fields, and one more":          {tagged(256, 0), api.ErrWire},
		"256 fields of one tag":             {slices.Repeat([]api.Field{field(1)}, items), api.ErrWire},
		"257 fields":                        {many, api.ErrLong},
		"257 fields of one tag":             {slices.Repeat([]api.Field{field(1)}, 257), api.ErrLong},
		"257 that are wrong":                {manyWrong, api.ErrLong},
		"very many":                         {make([]api.Field, 100000), api.ErrLong},
		"together too many bytes":           {[]api.Field{long(1, 4000), long(2, 91)}, api.ErrLong},
		"together by the lengths alone":     {[]api.Field{long(1, most-5), field(2)}, api.ErrLong},
		"one field, too many bytes":         {[]api.Field{long(1, most-2)}, api.ErrLong},
		"one field, without tag and length": {[]api.Field{long(1, most)}, api.ErrLong},
		"a field that is too long":          {[]api.Field{long(1, most+1)}, api.ErrWire},
		"one whose length wraps round":      {[]api.Field{long(1, 1<<16)}, api.ErrWire},
		"one of 65546 bytes":                {[]api.Field{field(1), long(2, 1<<16+10)}, api.ErrWire},
		"too many bytes, tags that stay":    {[]api.Field{long(1, most), field(1)}, api.ErrWire},
		"too many bytes, tag 0":             {[]api.Field{long(0, most)}, api.ErrWire},
		"too many bytes, then too long":     {[]api.Field{long(1, most), long(2, most+1)}, api.ErrWire},
		"256 fields, too many bytes":        {tagged(256, 20), api.ErrWire},
		"255 fields, too many bytes":        {tagged(255, 14), api.ErrLong},
		"tags far apart, as one byte alike": {[]api.Field{field(1), field(258)}, api.ErrWire},
	} {
		if b, e := wire.Put(c.l...); e != c.e || b != nil {
			t.Errorf("%s: %d bytes, %v, want %v", what, len(b), e, c.e)
		}
	}
}

func TestBytesThatAreNoValueAreNotRead(t *testing.T) { // 8.1: each error, and which comes first
	full := bytesOf([]api.Field{long(9, most-3)})
	for what, c := range map[string]struct {
		b []byte
		e api.Errno
	}{
		"a tag alone":                 {[]byte{1}, api.ErrWire},
		"half a length":               {[]byte{1, 0}, api.ErrWire},
		"a byte too few":              {[]byte{1, 0, 1}, api.ErrWire},
		"many bytes too few":          {[]byte{1, 255, 255, 7}, api.ErrWire},
		"the length's lower byte":     {[]byte{1, 1, 0, 7}, api.ErrWire},
		"tag 0":                       {[]byte{0, 0, 0}, api.ErrWire},
		"tag 0 behind another":        {[]byte{1, 0, 0, 0, 0, 0}, api.ErrWire},
		"tags that stay":              {[]byte{1, 0, 0, 1, 0, 0}, api.ErrWire},
		"tags that fall":              {[]byte{2, 0, 0, 1, 0, 0}, api.ErrWire},
		"tags that fall late":         {[]byte{1, 0, 0, 3, 0, 1, 9, 2, 0, 0}, api.ErrWire},
		"a byte too many":             {[]byte{1, 0, 0, 2}, api.ErrWire},
		"bytes behind tag 255":        {[]byte{255, 0, 0, 0}, api.ErrWire},
		"the last one cut":            {[]byte{1, 0, 0, 2, 0, 2, 1}, api.ErrWire},
		"full, cut":                   {full[:most-1], api.ErrWire},
		"full, tag 0":                 {append([]byte{0}, full[1:]...), api.ErrWire},
		"a value, too long":           {bytesOf([]api.Field{long(9, most-2)}), api.ErrLong},
		"full, and one more":          {append(slices.Clone(full), 1), api.ErrLong},
		"as many noughts as may be":   {make([]byte, most), api.ErrWire},
		"a nought more":               {make([]byte, most+1), api.ErrLong},
		"very many bytes":             {make([]byte, 100000), api.ErrLong},
		"too long, in two fields":     {bytesOf([]api.Field{long(1, 4000), long(2, 91)}), api.ErrLong},
		"256 fields (the last tag 0)": {bytesOf(tagged(items, 0)), api.ErrWire},
	} {
		if l, e := wire.Read(c.b); e != c.e || l != nil {
			t.Errorf("%s: %d fields, %v, want %v", what, len(l), e, c.e)
		}
	}
}

func TestGet(t *testing.T) { // 8.1: the first of that tag, of any fields
	l := []api.Field{field(3, 1, 2), field(1, 9), field(3, 7), field(0, 4), field(-5, 6), field(1000, 8), field(2), {Tag: 8, Bytes: nil}, long(4, 5000)}
	for tag, want := range map[int][]byte{3: {1, 2}, 1: {9}, 0: {4}, -5: {6}, 1000: {8}, 2: nil, 8: nil, 4: l[8].Bytes} {
		if b, e := wire.Get(l, tag); e != api.OK || !bytes.Equal(b, want) {
			t.Errorf("tag %d: %v, %v, want %v", tag, b, e, want)
		}
	}
	for _, tag := range []int{-1, 5, 255, 256, 259, 232, 1001, math.MaxInt, math.MinInt} {
		if b, e := wire.Get(l, tag); e != api.ErrNone || b != nil {
			t.Errorf("tag %d: %v, %v", tag, b, e)
		}
	}
	for _, none := range [][]api.Field{nil, {}} {
		if b, e := wire.Get(none, 0); e != api.ErrNone || b != nil {
			t.Errorf("of no fields: %v, %v", b, e)
		}
	}
	if b, e := wire.Get(append(make([]api.Field, 100000), field(7, 1)), 7); e != api.OK || !bytes.Equal(b, []byte{1}) {
		t.Errorf("of very many fields: %v, %v", b, e)
	}
}

func TestNumbers(t *testing.T) { // 8.2, 8.4
	numbers := []int{0, 1, -1, 2, -2, 127, 128, -128, -129, 255, 256, -255, -256, -257, math.MaxInt32, math.MinInt32, math.MaxInt, math.MinInt, math.MaxInt - 1, math.MinInt + 1, 0x0102030405060708, -0x0102030405060708}
	for i := range 63 {
		numbers = append(numbers, 1<<i, -1<<i, 1<<i-1)
	}
	for _, n := range numbers {
		b := wire.Int(n)
		if want := binary.BigEndian.AppendUint64(nil, uint64(n)); !bytes.Equal(b, want) {
			t.Errorf("%d: %v, want %v", n, b, want)
		}
		if again, e := wire.ReadInt(b); e != api.OK || again != n {
			t.Errorf("%d: %v is read as %d, %v", n, b, again, e)
		}
	}
	for seed := range uint64(1000) {
		b := drawn(seed, 8)
		n, e := wire.ReadInt(b)
		if want := int(binary.BigEndian.Uint64(b)); e != api.OK || n != want || !bytes.Equal(wire.Int(n), b) {
			t.Errorf("%v is read as %d, %v, want %d", b, n, e, want)
		}
	}
}

func TestBytesThatAreNoNumber(t *testing.T) { // 8.2
	for _, n := range []int{0, 1, 2, 3, 4, 5, 6, 7, 9, 10, 15, 16, 64, 264, most, most + 1, 100000} {
		if x, e := wire.ReadInt(drawn(3, n)); e != api.ErrWire || x != 0 {
			t.Errorf("of %d bytes: %d, %v", n, x, e)
		}
	}
	if x, e := wire.ReadInt(nil); e != api.ErrWire || x != 0 {
		t.Errorf("of nil: %d, %v", x, e)
	}
}

func TestListsArePutAndReadAsTheyWere(t *testing.T) { // 8.2, 8.4
	for _, l := range lists() {
		b, e := wire.List(l...)
		if want := listOf(l); e != api.OK || !bytes.Equal(b, want) {
			t.Fatalf("%d members: %v, %v, want %v", len(l), b, e, want)
		}
		if again, e := wire.ReadList(b); e != api.OK || !sameMembers(again, l) {
			t.Errorf("%v is read as %v, %v", b, again, e)
		}
	}
}

func TestListsThatAreTooLong(t *testing.T) { // 8.2
	for what, l := range map[string][][]byte{
		"257 members":                   members(257, 0),
		"257 members of a byte":         members(257, 1),
		"very many":                     make([][]byte, 100000),
		"257 that are too long":         slices.Repeat([][]byte{drawn(1, 5000)}, 257),
		"one of two bytes less":         members(1, most-1),
		"one as long as may be":         members(1, most),
		"one that is longer":            members(1, most+1),
		"one whose length wraps round":  members(1, 1<<16),
		"one of 65546 bytes":            {nil, drawn(1, 1<<16+10)},
		"together too long":             {drawn(1, 4000), drawn(2, 93)},
		"together by the lengths alone": {drawn(1, most-3), nil},
		"256 of 14 bytes, and one more": append(members(255, 14), drawn(1, 15)),
		"256 that are too long":         slices.Repeat([][]byte{drawn(1, 5000)}, 256),
	} {
		if b, e := wire.List(l...); e != api.ErrLong || b != nil {
			t.Errorf("%s: %d bytes, %v", what, len(b), e)
		}
	}
	if b, e := wire.List(members(256, 14)...); e != api.OK || len(b) != most {
		t.Errorf("256 of 14 bytes: %d bytes, %v", len(b), e)
	}
}

func TestBytesThatAreNoList(t *testing.T) { // 8.2: each error, and which comes first
	for what, c := range map[string]struct {
		b []byte
		e api.Errno
	}{
		"half a length":                {[]byte{0}, api.ErrWire},
		"a byte too few":               {[]byte{0, 1}, api.ErrWire},
		"the length's lower byte":      {[]byte{1, 0, 7}, api.ErrWire},
		"many bytes too few":           {[]byte{255, 255, 7}, api.ErrWire},
		"a byte too many":              {[]byte{0, 1, 5, 0}, api.ErrWire},
		"the last one cut":             {[]byte{0, 0, 0, 2, 1}, api.ErrWire},
		"257 members":                  {make([]byte, 2*257), api.ErrLong},
		"257 members of a byte":        {listOf(members(257, 1)), api.ErrLong},
		"257 members, and half a one":  {make([]byte, 2*257+1), api.ErrWire},
		"256 members, and half a one":  {make([]byte, 2*256+1), api.ErrWire},
		"256 members, and one cut":     {append(make([]byte, 2*256), 0, 1), api.ErrWire},
		"as many members as may stand": {make([]byte, most), api.ErrLong},
		"a nought less":                {make([]byte, most-1), api.ErrWire},
		"a nought more":                {make([]byte, most+1), api.ErrLong},
		"too long":                     {listOf(members(1, most-1)), api.ErrLong},
		"too long, and none":           {append(make([]byte, most), 0, 1), api.ErrLong},
		"very many bytes":              {make([]byte, 100000), api.ErrLong},
	} {
		if l, e := wire.ReadList(c.b); e != c.e || l != nil {
			t.Errorf("%s: %d members, %v, want %v", what, len(l), e, c.e)
		}
	}
	if l, e := wire.ReadList(make([]byte, 2*256)); e != api.OK || len(l) != 256 {
		t.Errorf("256 members: %d, %v", len(l), e)
	}
}

// eachText calls f with each text of up to n bytes of these letters.
func eachText(n int, letters []byte, f func(b []byte)) {
	var grow func(b []byte)
	grow = func(b []byte) {
		f(b)
		if len(b) == n {
			return
		}
		for _, x := range letters {
			grow(append(b, x))
		}
	}
	grow(make([]byte, 0, n))
}

func TestWhatIsReadIsPutAsThoseBytes(t *testing.T) { // 8.3, 8.4: no bytes but those that are put are read
	read := map[string]int{}
	eachText(8, []byte{0, 1, 2, 3}, func(b []byte) {
		if l, e := wire.Read(b); e == api.OK {
			read["values"]++
			if again, e := wire.Put(l...); e != api.OK || !bytes.Equal(again, b) {
				t.Errorf("%v is read as %v, and put as %v, %v", b, l, again, e)
			}
		} else if e != api.ErrWire || l != nil {
			t.Errorf("%v: %v, %v", b, l, e)
		}
		if l, e := wire.ReadList(b); e == api.OK {
			read["lists"]++
			if again, e := wire.List(l...); e != api.OK || !bytes.Equal(again, b) {
				t.Errorf("%v is read as %v, and put as %v, %v", b, l, again, e)
			}
		} else if e != api.ErrWire || l != nil {
			t.Errorf("%v: %v, %v", b, l, e)
		}
	})
	if read["values"] != countValues(8, 4) || read["lists"] != countLists(8, 4) {
		t.Errorf("%v are read, but there are %d values and %d lists", read, countValues(8, 4), countLists(8, 4))
	}
}

// power answers letters to the n.
func power(letters, n int) int {
	out := 1
	for range n {
		out *= letters
	}
	return out
}

// countValues answers how many values have up to n bytes, all of these below letters: for each field its tag, a length that such bytes can tell, and as many.
func countValues(n, letters int) int {
	var count func(room, last int) int
	count = func(room, last int) int {
		sum := 1
		for tag := last + 1; tag < letters; tag++ {
			for length := 0; length < letters && 3+length <= room; length++ {
				sum += power(letters, length) * count(room-3-length, tag)
			}
		}
		return sum
	}
	return count(n, 0)
}

// countLists answers how many lists have up to n bytes, all of these below letters.
func countLists(n, letters int) int {
	sum := 1
	for length := 0; length < letters && 2+length <= n; length++ {
		sum += power(letters, length) * countLists(n-2-length, letters)
	}
	return sum
}

func TestBytesThatAreCutShort(t *testing.T) { // 8.5
	for _, l := range values() {
		b := bytesOf(l)
		ends := map[int]int{0: 0} // where a field ends: how many there are by then
		n := 0
		for i, f := range l {
			n += 3 + len(f.Bytes)
			ends[n] = i + 1
		}
		for cut := range b {
			got, e := wire.Read(b[:cut])
			if count, whole := ends[cut]; whole {
				if e != api.OK || !sameFields(got, l[:count]) || sameFields(got, l) {
					t.Fatalf("%v, cut to %d: %v, %v", b, cut, got, e)
				}
			} else if e != api.ErrWire || got != nil {
				t.Fatalf("%v, cut to %d: %v, %v", b, cut, got, e)
			}
		}
	}
}

func TestListsThatAreCutShort(t *testing.T) { // 8.5
	for _, l := range lists() {
		b := listOf(l)
		ends := map[int]int{0: 0}
		n := 0
		for i, m := range l {
			n += 2 + len(m)
			ends[n] = i + 1
		}
		for cut := range b {
			got, e := wire.ReadList(b[:cut])
			if count, whole := ends[cut]; whole {
				if e != api.OK || !sameMembers(got, l[:count]) || sameMembers(got, l) {
					t.Fatalf("%v, cut to %d: %v, %v", b, cut, got, e)
				}
			} else if e != api.ErrWire || got != nil {
				t.Fatalf("%v, cut to %d: %v, %v", b, cut, got, e)
			}
		}
	}
}

func TestNothingAndEmptyAreAlike(t *testing.T) { // rule 3
	for _, l := range [][]api.Field{nil, {}} {
		if b, e := wire.Put(l...); e != api.OK || len(b) != 0 {
			t.Errorf("no fields: %v, %v", b, e)
		}
	}
	for _, l := range [][][]byte{nil, {}} {
		if b, e := wire.List(l...); e != api.OK || len(b) != 0 {
			t.Errorf("no members: %v, %v", b, e)
		}
	}
	for _, b := range [][]byte{nil, {}} {
		if l, e := wire.Read(b); e != api.OK || len(l) != 0 {
			t.Errorf("of no bytes: %v, %v", l, e)
		}
		if l, e := wire.ReadList(b); e != api.OK || len(l) != 0 {
			t.Errorf("of no bytes: %v, %v", l, e)
		}
		if got, e := wire.Put(api.Field{Tag: 2, Bytes: b}); e != api.OK || !bytes.Equal(got, []byte{2, 0, 0}) {
			t.Errorf("a field without bytes: %v, %v", got, e)
		}
		if got, e := wire.List(b, b); e != api.OK || !bytes.Equal(got, make([]byte, 4)) {
			t.Errorf("members without bytes: %v, %v", got, e)
		}
	}
}

// spoil turns all bytes of b, and those behind it that its memory holds.
func spoil(b []byte) {
	b = b[:cap(b)]
	for i := range b {
		b[i] ^= 0xff
	}
}

func TestWhatIsHandedInStays(t *testing.T) { // rule 4
	room := drawn(5, 40)
	before := slices.Clone(room)
	l := []api.Field{{Tag: 1, Bytes: room[:3]}, {Tag: 2, Bytes: room[5:9]}}
	first, _ := wire.Put(l...)
	kept := slices.Clone(first)
	got, _ := wire.Get(l, 1)
	list, _ := wire.List(room[:3], room[5:9])
	for _, b := range [][]byte{first, got, list} {
		spoil(b)
	}
	if !bytes.Equal(room, before) || l[0].Tag != 1 || l[1].Tag != 2 || len(l[0].Bytes) != 3 || len(l[1].Bytes) != 4 {
		t.Error("fields that were handed in were changed")
	}
	if again, _ := wire.Put(l...); !bytes.Equal(again, kept) {
		t.Error("what was handed out is kept")
	}
}

func TestWhatIsReadIsTheCallersOwn(t *testing.T) { // rule 4: it shares nothing with the bytes, nor one list with another
	whole := bytesOf([]api.Field{field(1, 7, 8), field(2, 9), field(3), field(4, 1, 2, 3)})
	b := slices.Clone(whole)
	l, _ := wire.Read(b)
	for i := range l {
		others := slices.Clone(l)
		for j := range others {
			others[j].Bytes = slices.Clone(others[j].Bytes)
		}
		spoil(l[i].Bytes)
		for j := range l {
			if j != i && !bytes.Equal(l[j].Bytes, others[j].Bytes) {
				t.Errorf("field %d changed with field %d", j, i)
			}
		}
	}
	whole2 := listOf([][]byte{{7, 8}, {9}, nil, {1, 2, 3}})
	c := slices.Clone(whole2)
	m, _ := wire.ReadList(c)
	for i := range m {
		others := make([][]byte, len(m))
		for j := range m {
			others[j] = slices.Clone(m[j])
		}
		spoil(m[i])
		for j := range m {
			if j != i && !bytes.Equal(m[j], others[j]) {
				t.Errorf("member %d changed with member %d", j, i)
			}
		}
	}
	if !bytes.Equal(b, whole) || !bytes.Equal(c, whole2) {
		t.Error("the bytes that were read changed with what was handed out")
	}
	spoil(wire.Int(77))
	if x, e := wire.ReadInt(wire.Int(77)); x != 77 || e != api.OK {
		t.Errorf("a number's bytes are kept: %d, %v", x, e)
	}
}

func TestRefusedCallsLeaveNoTrace(t *testing.T) { // P2
	l := []api.Field{field(1, 7, 8), field(3)}
	want := bytesOf(l)
	for range 3 {
		wire.Put(field(9), field(9))
		wire.Put(tagged(257, 1)...)
		wire.Read([]byte{1, 0, 1})
		wire.Read(make([]byte, most+1))
		wire.Get(l, 2)
		wire.ReadInt(nil)
		wire.List(members(257, 1)...)
		wire.ReadList([]byte{0, 1})
		wire.ReadList(make([]byte, most))
		if b, e := wire.Put(l...); e != api.OK || !bytes.Equal(b, want) {
			t.Fatalf("%v, %v", b, e)
		}
		if again, e := wire.Read(want); e != api.OK || !sameFields(again, l) {
			t.Fatalf("%v, %v", again, e)
		}
	}
}
