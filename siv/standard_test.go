package siv_test

import (
	"bytes"
	"testing"

	"vestry/api"
	"vestry/siv"
)

// known is an example of sealing, as RFC 8452 lists it.
type known struct{ key, nonce, aad, text, sealed string }

// underOne are the standard's examples under the key and the nonce of the chapter's own ones.
func underOne() []known {
	const (
		k      = "01000000000000000000000000000000 00000000000000000000000000000000"
		n      = "030000000000000000000000"
		first  = "01000000000000000000000000000000"
		second = "02000000000000000000000000000000"
		third  = "03000000000000000000000000000000"
		fourth = "04000000000000000000000000000000"
		fifth  = "05000000000000000000000000000000"
	)
	return []known{
		{k, n, "", "", "07f5f4169bbf55a8400cd47ea6fd400f"},
		{k, n, "", "0100000000000000", "c2ef328e5c71c83b 843122130f7364b761e0b97427e3df28"},
		{k, n, "", "010000000000000000000000", "9aab2aeb3faa0a34aea8e2b1 8ca50da9ae6559e48fd10f6e5c9ca17e"},
		{k, n, "", first, "85a01b63025ba19b7fd3ddfc033b3e76 c9eac6fa700942702e90862383c6c366"},
		{k, n, "", first + second, "4a6a9db4c8c6549201b9edb53006cba821ec9cf850948a7c86c68ac7539d027f e819e63abcd020b006a976397632eb5d"},
		{k, n, "", first + second + third, "c00d121893a9fa603f48ccc1ca3c57ce7499245ea0046db16c53c7c66fe717e39cf6c748837b61f6ee3adcee17534ed5 790bc96880a99ba804bd12c0e6a22cc4"},
		{k, n, "", first + second + third + fourth, "c2d5160a1f8683834910acdafc41fbb1632d4a353e8b905ec9a5499ac34f96c7e1049eb080883891a4db8caaa1f99dd004d80487540735234e3744512c6f90ce 112864c269fc0d9d88c61fa47e39aa08"},
		{k, n, "01", "0200000000000000", "1de22967237a8132 91213f267e3b452f02d01ae33e4ec854"},
		{k, n, "01", "020000000000000000000000", "163d6f9cc1b346cd453a2e4c c1a4a19ae800941ccdc57cc8413c277f"},
		{k, n, "01", second, "c91545823cc24f17dbb0e9e807d5ec17 b292d28ff61189e8e49f3875ef91aff7"},
		{k, n, "01", second + third, "07dad364bfc2b9da89116d7bef6daaaf6f255510aa654f920ac81b94e8bad365 aea1bad12702e1965604374aab96dbbc"},
		{k, n, "01", second + third + fourth, "c67a1f0f567a5198aa1fcc8e3f21314336f7f51ca8b1af61feac35a86416fa47fbca3b5f749cdf564527f2314f42fe25 03332742b228c647173616cfd44c54eb"},
		{k, n, "01", second + third + fourth + fifth, "67fd45e126bfb9a79930c43aad2d36967d3f0e4d217c1e551f59727870beefc98cb933a8fce9de887b1e40799988db1fc3f91880ed405b2dd298318858467c89 5bde0285037c5de81e5b570a049b62a0"},
		{k, n, "010000000000000000000000", "02000000", "22b3f4cd 1835e517741dfddccfa07fa4661b74cf"},
		{k, n, first + "0200", third + "04000000", "43dd0163cdb48f9fe3212bf61b201976067f342b b879ad976d8242acc188ab59cabfe307"},
		{k, n, first + "02000000", third + "0400", "462401724b5ce6588d5a54aae5375513a075 cfcdf5042112aa29685c912fc2056543"},
	}
}

// underOthers are the standard's examples under keys of their own.
func underOthers() []known {
	return []known{
		{"e66021d5eb8e4f4066d4adb9c33560e4f46e44bb3da0015c94f7088736864200", "e0eaf5284d884a0e77d31646", "", "", "169fbb2fbf389a995f6390af22228a62"},
		{"bae8e37fc83441b16034566b7a806c46bb91c3c5aedb64a6c590bc84d1a5e269", "e4b47801afc0577e34699b9e", "4fbdc66f14", "671fdd", "0eaccb93da9bb81333aee0c785b240d319719d"},
		{"6545fc880c94a95198874296d5cc1fd161320b6920ce07787f86743b275d1ab3", "2f6d1f0434d8848c1177441f", "6787f3ea22c127aaf195", "195495860f04", "a254dad4f3f96b62b84dc40c84636a5ec12020ec8c2c"},
		{"d1894728b3fed1473c528b8426a582995929a1499e9ad8780c8d63d0ab4149c0", "9f572c614b4745914474e7c7", "489c8fde2be2cf97e74e932d4ed87d", "c9882e5386fd9f92ec", "0df9e308678244c44bc0fd3dc6628dfe55ebb0b9fb2295c8c2"},
		{"a44102952ef94b02b805249bac80e6f61455bfac8308a2d40d8c845117808235", "5c9e940fea2f582950a70d5a", "0da55210cc1c1b0abde3b2f204d1e9f8b06bc47f", "1db2316fd568378da107b52b", "8dbeb9f7255bf5769dd56692404099c2587f64979f21826706d497d5"},
		{"9745b3d1ae06556fb6aa7890bebc18fe6b3db4da3d57aa94842b9803a96e07fb", "6de71860f762ebfbd08284e4", "f37de21c7ff901cfe8a69615a93fdf7a98cad481796245709f", "21702de0de18baa9c9596291b08466", "793576dfa5c0f88729a7ed3c2f1bffb3080d28f6ebb5d3648ce97bd5ba67fd"},
		{"b18853f68d833640e42a3c02c25b64869e146d7b233987bddfc240871d7576f7", "028ec6eb5ea7e298342a94d4", "9c2159058b1f0fe91433a5bdc20e214eab7fecef4454a10ef0657df21ac7", "b202b370ef9768ec6561c4fe6b7e7296fa85", "857e16a64915a787637687db4a9519635cdd454fc2a154fea91f8363a39fec7d0a49"},
		{"3c535de192eaed3822a2fbbe2ca9dfc88255e14a661b8aa82cc54236093bbc23", "688089e55540db1872504e1c", "734320ccc9d9bbbb19cb81b2af4ecbc3e72834321f7aa0f70b7282b4f33df23f167541", "ced532ce4159b035277d4dfbb7db62968b13cd4eec", "626660c26ea6612fb17ad91e8e767639edd6c9faee9d6c7029675b89eaf4ba1ded1a286594"},
	}
}

// wrapped are the standard's examples of counters that begin at 2^32 - 1.
func wrapped() []known {
	const (
		k = "00000000000000000000000000000000 00000000000000000000000000000000"
		n = "000000000000000000000000"
	)
	return []known{
		{k, n, "", "000000000000000000000000000000004db923dc793ee6497c76dcc03a98e108", "f3f80f2cf0cb2dd9c5984fcda908456cc537703b5ba70324a6793a7bf218d3ea ffffffff000000000000000000000000"},
		{k, n, "", "eb3640277c7ffd1303c7a542d02d3e4c0000000000000000", "18ce4f0b8cb4d0cac65fea8f79257b20888e53e72299e56d ffffffff000000000000000000000000"},
	}
}

func checkKnown(t *testing.T, c known) {
	t.Helper()
	k, n := key(unhex(t, c.key)), nonce(unhex(t, c.nonce))
	aad, text, want := unhex(t, c.aad), unhex(t, c.text), unhex(t, c.sealed)
	if got, e := siv.Seal(k, n, aad, text); e != api.OK || !bytes.Equal(got, want) {
		t.Errorf("Seal of %s beside %s is %x, %v, want %s", c.text, c.aad, got, e, c.sealed)
	}
	if got, e := siv.Open(k, n, aad, want); e != api.OK || !bytes.Equal(got, text) {
		t.Errorf("Open of %s beside %s is %x, %v, want %s", c.sealed, c.aad, got, e, c.text)
	}
}

func TestTheStandardsExamples(t *testing.T) {
	for _, c := range underOne() {
		checkKnown(t, c)
	}
	for _, c := range underOthers() {
		checkKnown(t, c)
	}
	for _, c := range wrapped() {
		checkKnown(t, c)
	}
}

func TestTheChaptersExamples(t *testing.T) {
	k, n := key{0: 1}, nonce{0: 3}
	first, e := siv.Seal(k, n, nil, nil)
	if e != api.OK || !bytes.Equal(first, unhex(t, "07f5f4169bbf55a8400cd47ea6fd400f")) {
		t.Errorf("Seal of nothing is %x, %v", first, e)
	}
	second, e := siv.Seal(k, n, nil, []byte{1, 0, 0, 0, 0, 0, 0, 0})
	if e != api.OK || !bytes.Equal(second, unhex(t, "c2ef328e5c71c83b 843122130f7364b761e0b97427e3df28")) {
		t.Errorf("Seal of 01 and seven noughts is %x, %v", second, e)
	}
	for bit := range 8 * len(first) {
		if text, e := siv.Open(k, n, nil, turned(first, bit)); e != api.ErrTag || len(text) != 0 {
			t.Errorf("Open of the first, its bit %d turned, is %x, %v", bit, text, e)
		}
	}
	if text, e := siv.Open(k, n, nil, first[:15]); e != api.ErrShort || len(text) != 0 {
		t.Errorf("Open of 15 bytes is %x, %v", text, e)
	}
}
