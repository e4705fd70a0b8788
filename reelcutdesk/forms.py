"""Numbers and bytes as they stand in a box, and the fault that ends their reading."""

FORM_FAULT = 4
MOST_NUMBER_BYTES = 10
NUMBER_BOUND = 18446744073709551616
MOST_BYTE = 255


class Fault(Exception):
    def __init__(self, kind, place):
        self.kind = kind
        self.place = place


# A box's body while it is read: where its numbers began, and the stream to be told with a fault.
# In a plain one each number stands as it is, in one place: so a list that is handed in is read like a body.
class Body:
    def __init__(self, data, place, end):
        self.data = data
        self.at = place
        self.end = end
        self.plain = False
        self.places = []
        self.stream = 0


def lowest_first(value, size):
    return [(value >> (8 * k)) & 255 for k in range(size)]


def from_lowest_first(data, place, size):
    value = 0
    for k in range(size):
        value += data[place + k] << (8 * k)
    return value


def number_form(value):
    form = []
    while value > 127:
        form.append(value & 127 | 128)
        value = value >> 7
    form.append(value)
    return form


def numbers_form(values):
    form = []
    for value in values:
        form.extend(number_form(value))
    return form


def string_form(data):
    return number_form(len(data)) + data


def signed_form(value):
    if value < 0:
        return -2 * value - 1
    return 2 * value


def take_one(body):
    if body.at == body.end:
        raise Fault(FORM_FAULT, body.end)
    body.at += 1
    return body.data[body.at - 1]


def expect_byte(body, wanted, kind):
    if take_one(body) != wanted:
        raise Fault(kind, body.at - 1)


def read_number(body):
    body.places.append(body.at)
    if body.plain:
        return take_one(body)
    return read_number_form(body, body.at)


def read_number_form(body, first):
    value = 0
    for k in range(MOST_NUMBER_BYTES):
        byte = take_one(body)
        value += (byte & 127) << (7 * k)
        if byte < 128:
            # A last byte of 0 adds nothing: a shorter form was there.
            if value >= NUMBER_BOUND or (byte == 0 and k > 0):
                raise Fault(FORM_FAULT, first)
            return value
    raise Fault(FORM_FAULT, first)


def read_within(body, least, most):
    value = read_number(body)
    if value < least or value > most:
        raise Fault(FORM_FAULT, body.places[-1])
    return value


def read_signed(body):
    value = read_number(body)
    if value & 1 == 1:
        return -((value + 1) // 2)
    return value // 2


def read_string(body, most):
    size = read_number(body)
    if size > most or size > body.end - body.at:
        raise Fault(FORM_FAULT, body.places[-1])
    body.at += size
    data = body.data[body.at - size:body.at]
    # Only in a plain body can there be such.
    if any([byte > MOST_BYTE for byte in data]):
        raise Fault(FORM_FAULT, body.places[-1])
    return data


def read_rest(body):
    rest = body.data[body.at:body.end]
    body.at = body.end
    return rest


def expect_end(body):
    if body.at < body.end:
        raise Fault(FORM_FAULT, body.at)
