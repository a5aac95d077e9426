package vote

import (
	"bytes"
	"math/rand"
	"testing"

	"chirograph/api"
	"chirograph/sha"
)

// Promise 13.1: the bytes of some, written out.
func TestTextBytes(t *testing.T) {
	const (
		first  = "\x01\x02\x03\x04\x05\x06\x07\x08\x09\x0a\x0b\x0c\x0d\x0e\x0f\x10\x11\x12\x13\x14\x15\x16\x17\x18\x19\x1a\x1b\x1c\x1d\x1e\x1f\x20"
		second = "\x80\x81\x82\x83\x84\x85\x86\x87\x88\x89\x8a\x8b\x8c\x8d\x8e\x8f\x90\x91\x92\x93\x94\x95\x96\x97\x98\x99\x9a\x9b\x9c\x9d\x9e\x9f"
		none   = "\x00\x00\x00\x00\x00\x00\x00\x00\x00\x00\x00\x00\x00\x00\x00\x00\x00\x00\x00\x00\x00\x00\x00\x00\x00\x00\x00\x00\x00\x00\x00\x00"
	)
	for _, k := range []struct {
		name         string
		anchor, link api.Hash
		place        int
		want         string
	}{
		{"nothing", api.Hash{}, api.Hash{}, 0, "VOTE" + none + "\x00\x00\x00\x00" + none},
		{"the first place", hashOf(1), hashOf(128), 1, "VOTE" + first + "\x00\x00\x00\x01" + second},
		{"turned", hashOf(128), hashOf(1), 1, "VOTE" + second + "\x00\x00\x00\x01" + first},
		{"two bytes", hashOf(1), hashOf(1), 258, "VOTE" + first + "\x00\x00\x01\x02" + first},
		{"three bytes", hashOf(1), api.Hash{}, 0x030201, "VOTE" + first + "\x00\x03\x02\x01" + none},
		{"the last place", api.Hash{}, hashOf(1), api.MaxPlace, "VOTE" + none + "\x00\x10\x00\x00" + first},
		{"behind the last place", hashOf(1), hashOf(128), api.MaxPlace + 1, "VOTE" + first + "\x00\x10\x00\x01" + second},
		{"four bytes", hashOf(1), hashOf(128), 0x0a0b0c0d, "VOTE" + first + "\x0a\x0b\x0c\x0d" + second},
		{"the lowest four of five", hashOf(1), hashOf(128), 0x7f01020304, "VOTE" + first + "\x01\x02\x03\x04" + second},
		{"-1", hashOf(1), hashOf(128), -1, "VOTE" + first + "\xff\xff\xff\xff" + second},
		{"-258", hashOf(1), hashOf(128), -258, "VOTE" + first + "\xff\xff\xfe\xfe" + second},
	} {
		b := Text(k.anchor, k.place, k.link)
		if string(b) != k.want || len(b) != 72 { // the chapter's example
			t.Errorf("%s: %d bytes: %x, want %x", k.name, len(b), b, k.want)
		}
	}
}

// Promise 13.1: as the plain one, at all places.
func TestTextAsPlainly(t *testing.T) {
	chance := rand.New(rand.NewSource(141))
	places := edges()
	for range 2000 {
		places = append(places, int(chance.Uint64()), chance.Intn(1<<20))
	}
	for _, place := range places {
		anchor, link := randomHash(chance), randomHash(chance)
		if b := Text(anchor, place, link); !bytes.Equal(b, plainText(anchor, place, link)) {
			t.Fatalf("%x, %d, %x: %x", anchor, place, link, b)
		}
	}
}

// Promise 13.1, 13.3: another anchor, place or link has another text; each bit of them.
func TestTextSaysAll(t *testing.T) {
	anchor, link := hashOf(1), hashOf(128)
	texts := map[string]string{string(Text(anchor, 0, link)): "as it is"}
	add := func(name string, b []byte) {
		if other, ok := texts[string(b)]; ok {
			t.Errorf("one text: %s, %s", name, other)
		}
		texts[string(b)] = name
	}
	for bit := range 256 {
		other := anchor
		other[bit/8] ^= 1 << (bit % 8)
		add("an anchor", Text(other, 0, link))
		other = link
		other[bit/8] ^= 1 << (bit % 8)
		add("a link", Text(anchor, 0, other))
	}
	for bit := range 32 {
		add("a place", Text(anchor, 1<<bit, link))
	}
	add("the two, turned", Text(link, 0, anchor))
}

// Promise 13.1 (and rule 2): what is answered is the caller's own.
func TestTextsShareNothing(t *testing.T) {
	first, second := Text(hashOf(1), 5, hashOf(2)), Text(hashOf(1), 5, hashOf(2))
	longer := append(first, "more behind it"...)
	clear(longer)
	clear(first[:cap(first)])
	if !bytes.Equal(second, plainText(hashOf(1), 5, hashOf(2))) || !bytes.Equal(Text(hashOf(1), 5, hashOf(2)), second) {
		t.Error("two answers share bytes")
	}
}

// Promises 13.1, 13.2: what another program (chapters 3, 4, 10, 13 in another language) makes of the replicas' secrets: the texts and the votes' bytes, by their digests.
func TestOfAnother(t *testing.T) {
	if h := sha.Hex(plainAnchor(house(1))); h != "42442557570855ed04db001bc5a41daa07da90398fd633728c8b48e4a52c780b" {
		t.Errorf("a test that is wrong: anchor %s", h)
	}
	for _, k := range []struct {
		f, from, place, leaf, size int
		text, bytes                string
	}{
		{0, 0, 1, 0, 8725, "bfc8809ae320410c6fd5ac44573a6971a8e33f5621442736236b4e293df4a948", "3a9ea6795492382d6c85da65e2c4b5953657c7f11f009158b85e13d621fb1220"},
		{1, 0, 1, 31, 8725, "2f116f7e13a7ecd692cb3256e52bc25415cf108b7d1bed25483af4a3beb63662", "9c996bb2c35a014b85a40fa4c5530611bb91dc24538fdf817fae67174ea73df2"},
		{1, 1, 2, 0, 4501, "e787d21c2d3586d1ab4083cc702ded609d111bf733849798bc076007d4bef7c6", "eaba1344f39f6ce108ee8fd8b6d3dc6d0126758cd7ecac94587c3c7269f3b1a1"},
		{1, 2, 258, 7, 2389, "17203c31a94c7865bc40baf1fe25acef3b4f73f3d3498440203c7033fddc3659", "866607a0603bb3232a7c60eb6f6608d0223a5dd474722fef7dcfcc04073acfd1"},
		{1, 3, api.MaxPlace, 16, 1333, "831cafb546c8cad3b65f4bb4eea5ace9c8ec969edbe8c0f04177a7de6a86677e", "291c0ff0c270c217def24f425fe6c8e02a8c2460416872489f6d90e52aebb3ac"},
		{2, 6, 65536, 30, 2389, "a152f317efd102e49152d5149c9952a419441d7bd5b3526ade7ce303f425d9f5", "f2720eeb41cb772c57812d512c3031a3cf8a9364bc250c169b3bca1dac449f0a"},
	} {
		g := house(k.f)
		text := Text(plainAnchor(g), k.place, hashOf(1))
		v := api.Vote{Place: k.place, From: k.from, Link: hashOf(1), Sig: signed(k.from, k.leaf, text)}
		b := put(t, v)
		if sha.Hex(sha.Sum(text)) != k.text || sha.Hex(sha.Sum(b)) != k.bytes || len(b) != k.size {
			t.Errorf("F %d, from %d: text %x, %d bytes %x", k.f, k.from, text, len(b), sha.Sum(b))
		}
		checked(t, "another's", g, v, api.OK)
		checked(t, "another's, read", g, get(t, b), api.OK)
	}
}
