import unittest

import witness
from trusthouse.sealing import encipher, key_words, seal, streamed, total_of, unseal

KEY = list(range(16))
SIZES = (0, 1, 7, 8, 9, 15, 16, 17, 24, 33, 64, 200, 504)


def text_of(size):
    return [(place * 7 + size) % 256 for place in range(size)]


def with_bit_changed(row, bit):
    return [byte ^ (1 << bit % 8 if place == bit // 8 else 0) for place, byte in enumerate(row)]


class Block(unittest.TestCase):
    def test_published_answers(self):
        for key, block, told in (
            (KEY, 0x4142434445464748, 0x497DF3D072612CB5),
            (KEY, 0x4141414141414141, 0xE78F2D13744341D8),
            ([0] * 16, 0x4142434445464748, 0xA0390589F8B8EFA5),
            ([0] * 16, 0, 0xDEE9D4D8F7131ED9),
        ):
            self.assertEqual(encipher(key_words(key, 0), block), told)

    def test_the_masks(self):
        # With a key of 36H or 5CH alone the masked one is all 0, so the published answer for that shows.
        self.assertEqual(total_of([0x36] * 16, []), 0xDEE9D4D8F7131ED9)
        self.assertEqual(streamed([0x5C] * 16, 0, [0] * 8), list(bytes.fromhex("dee9d4d8f7131ed9")))

    def test_the_stream_goes_on_at_0_behind_the_greatest(self):
        for total in (2 ** 64 - 1, 2 ** 64 - 2):
            told = streamed(KEY, total, [0] * 30)
            self.assertEqual(told, list(witness.stream(bytes(KEY), total, 30)))


class Sealed(unittest.TestCase):
    def test_as_the_document_says(self):
        for size in SIZES:
            for key in (KEY, [255] * 16, list(witness.key_of(size))):
                told = seal(key, text_of(size))
                self.assertEqual(told, list(witness.seal(bytes(key), bytes(text_of(size)))))
                self.assertEqual(len(told), size + 8)

    def test_opens_again(self):
        for size in SIZES:
            self.assertEqual(unseal(KEY, seal(KEY, text_of(size))), text_of(size))

    def test_one_bit_changed_does_not_open(self):
        for size in (0, 1, 7, 8, 9, 16):
            sealed = seal(KEY, text_of(size))
            for bit in range(8 * len(sealed)):
                self.assertIsNone(unseal(KEY, with_bit_changed(sealed, bit)))

    def test_another_key_does_not_open(self):
        sealed = seal(KEY, text_of(33))
        for bit in range(128):
            self.assertIsNone(unseal(with_bit_changed(KEY, bit), sealed))

    def test_a_byte_too_few_or_too_many_does_not_open(self):
        for size in (1, 8, 9, 16):
            sealed = seal(KEY, text_of(size))
            self.assertIsNone(unseal(KEY, sealed[:-1]))
            self.assertIsNone(unseal(KEY, sealed[1:]))
            self.assertIsNone(unseal(KEY, sealed + [0]))

    def test_fewer_than_eight_bytes_do_not_open(self):
        for size in range(8):
            self.assertIsNone(unseal(KEY, seal(KEY, [])[:size]))
            self.assertIsNone(unseal(KEY, [0] * size))

    def test_a_sum_without_its_leading_0_does_not_open(self):
        keys = [list(witness.key_of(number)) for number in range(256)]
        key = [key for key in keys if seal(key, [])[0] == 0][0]
        self.assertEqual(unseal(key, seal(key, [])), [])
        self.assertIsNone(unseal(key, seal(key, [])[1:]))

    def test_a_0_behind_a_text_makes_another_sum(self):
        self.assertNotEqual(total_of(KEY, [1, 2, 3]), total_of(KEY, [1, 2, 3, 0]))
        self.assertNotEqual(total_of(KEY, []), total_of(KEY, [0]))

    def test_what_is_handed_in_stays(self):
        key, text = list(KEY), text_of(9)
        sealed = seal(key, text)
        before = list(sealed)
        unseal(key, sealed)
        self.assertEqual((key, text, sealed), (KEY, text_of(9), before))


if __name__ == "__main__":
    unittest.main()
