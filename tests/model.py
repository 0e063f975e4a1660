"""A second, slower telling of the document: digits as texts, ticks one by one."""

from calling import CODES, drum_list


def text_of(number, digits):
    """The sign and the lower digits of a number, with noughts in front."""
    return ("-" if number < 0 else "+"), str(abs(number)).rjust(digits, "0")[-digits:]


def fits(number):
    return len(str(abs(number))) <= 20


def digits_together(number):
    return sum(int(digit) for digit in str(abs(number)))


class Model:
    def __init__(self):
        self.told = {"state": 0, "over": 0, "n": 0, "t": 0, "a": 0, "d": 0}
        self.words = {}

    def word(self, address):
        return self.words.get(address, 0)

    def drum(self):
        return drum_list(self.words)

    def band(self, address):
        """The forty addresses of a band from this one on."""
        addresses = [address]
        while len(addresses) < 40:
            last = addresses[-1]
            addresses.append(last + 1 if (last + 1) // 40 == address // 40 else last // 40 * 40)
        return addresses

    def wait(self, address):
        while self.tick % 40 != address % 40:
            self.tick += 1

    def run(self, orders, until, cards):
        self.cards = [cards[at:at + 8] for at in range(0, len(cards), 8)]
        self.read = 0
        self.punched = []
        begun = 0
        while begun < orders and self.told["state"] == 0 and not self.told["t"] >= until:
            begun += 1
            self.tick = self.told["t"]
            self.one()
            self.told["t"] = self.tick % 2 ** 64
        return [begun, self.read] + self.punched

    def one(self):
        self.wait(self.told["n"])
        self.tick += 3
        word = self.word(self.told["n"])
        text = str(abs(word)).rjust(10, "0")
        name = CODES.get(int(text[:2]))
        data, following = int(text[2:6]), int(text[6:])
        stop = self.stop(word < 0, name, data, following)
        if stop:
            self.told["state"] = stop
            return
        self.told["n"] = following
        # By itself first: the waits within it count on the tick too.
        behind = getattr(self, "do_" + name.lower())(data)
        self.tick += behind

    def stop(self, below, name, data, following):
        without_d = ("HLT", "NOP", "SHL", "SHR", "SRR", "SCT")
        holds = {
            2: below,
            3: name is None,
            4: (name != "HLT" and following > 1999) or (name not in without_d and data > 1999),
            5: name in ("SHL", "SHR", "SRR") and data > 20,
            6: name == "RDC" and not self.cards,
            1: name == "HLT",
        }
        return next((state for state, held in holds.items() if held), 0)

    def fetch(self, data):
        self.wait(data)
        self.tick += 1
        self.told["d"] = self.word(data)
        return self.told["d"]

    def put(self, data, word):
        self.wait(data)
        self.tick += 1
        self.words[data] = word
        return 0

    def keep(self, number):
        if not fits(number):
            self.told["over"] = 1
        self.told["a"] = int("".join(text_of(number, 20)))

    def plus(self, number):
        self.keep(self.told["a"] + number)
        return 2

    def part(self, begin, end):
        sign, digits = text_of(self.told["a"], 20)
        return int(sign + digits[begin:end])

    def do_nop(self, data):
        return 0

    def do_lda(self, data):
        self.told["a"] = self.fetch(data)
        return 1

    def do_ldn(self, data):
        self.told["a"] = 0 - self.fetch(data)
        return 1

    def do_add(self, data):
        return self.plus(self.fetch(data))

    def do_sub(self, data):
        return self.plus(-self.fetch(data))

    def do_adm(self, data):
        return self.plus(abs(self.fetch(data)))

    def do_sbm(self, data):
        return self.plus(-abs(self.fetch(data)))

    def do_adu(self, data):
        return self.plus(self.fetch(data) * 10 ** 10)

    def do_sbu(self, data):
        return self.plus(-self.fetch(data) * 10 ** 10)

    def do_ldd(self, data):
        self.fetch(data)
        return 0

    def do_mul(self, data):
        self.told["a"] = self.part(10, 20) * self.fetch(data)
        return 4 + 2 * digits_together(self.told["d"])

    def do_div(self, data):
        by = self.fetch(data)
        a = self.told["a"]
        if by == 0 or abs(a) >= abs(by) * 10 ** 10:
            self.told["over"] = 1
            return 6
        size, rest = divmod(abs(a), abs(by))
        self.told["a"] = size if (a < 0) == (by < 0) else -size
        self.told["d"] = -rest if a < 0 else rest
        return 6 + 2 * digits_together(size)

    def do_stl(self, data):
        return self.put(data, self.part(10, 20))

    def do_stu(self, data):
        return self.put(data, self.part(0, 10))

    def do_std(self, data):
        return self.put(data, self.told["d"])

    def do_shl(self, data):
        self.keep(int(str(self.told["a"]) + "0" * data))
        return 2 + data

    def do_shr(self, data):
        self.told["a"] = self.part(0, 20 - data) if data < 20 else 0
        return 2 + data

    def do_srr(self, data):
        sign, digits = text_of(self.told["a"], 20)
        first_dropped = digits[20 - data:][:1]
        size = int(digits[:20 - data] or "0") + (first_dropped >= "5")
        self.told["a"] = int(sign + str(size))
        return 2 + data

    def do_sct(self, data):
        a = self.told["a"]
        count = 20 if a == 0 else 20 - len(str(abs(a)))
        self.told["d"] = count
        self.told["a"] = int(str(a) + "0" * count)
        return 2 + count

    def branch(self, data, taken):
        if taken:
            self.told["n"] = data
        return 1

    def do_bmi(self, data):
        return self.branch(data, str(self.told["a"])[0] == "-")

    def do_bnz(self, data):
        return self.branch(data, self.told["a"] != 0)

    def do_bov(self, data):
        taken = self.told["over"] == 1
        self.told["over"] = 0
        return self.branch(data, taken)

    def do_tlu(self, data):
        self.wait(data)
        self.tick += 1
        found = [before for before, address in enumerate(self.band(data)) if self.word(address) >= self.told["d"]]
        if not found:
            self.told["over"] = 1
            return 39 + 1
        self.told["a"] = found[0]
        return found[0] + 1

    def do_rdc(self, data):
        self.words.update(zip(self.band(data), self.cards.pop(0)))
        self.read += 1
        return 60

    def do_pch(self, data):
        self.punched.extend(self.word(address) for address in self.band(data)[:8])
        return 60
