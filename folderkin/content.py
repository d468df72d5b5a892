"""Contents, their blocks, and the numbers of blocks (chapter 02)."""

from folderkin.errors import InvalidBlock

BLOCK = 4
_MOST_BLOCKS = 255


def block_number(data):
    """Returns the number of the block with the bytes of a list of 1 to 4 bytes."""
    # The leading 1 keeps blocks apart that begin with bytes 0.
    number = 1
    for byte in data:
        number = number * 256 + byte
    return number


def block_size(number):
    """Returns the number of bytes of the block with this number, or 0 if there is none."""
    for size in range(1, BLOCK + 1):
        if number >> (8 * size) == 1:
            return size
    return 0


def is_block(number):
    """Returns True if the integer is the number of a block, otherwise False."""
    return block_size(number) > 0


def block_bytes(number):
    """Returns the list of the bytes of the block. Raises InvalidBlock."""
    size = block_size(number)
    if size == 0:
        raise InvalidBlock(0)
    return [(number >> (8 * behind)) & 255 for behind in reversed(range(size))]


def split(content):
    """Returns the blocks of the content, a tuple."""
    return tuple([block_number(content[at:at + BLOCK]) for at in range(0, len(content), BLOCK)])


def joined(numbers):
    """Returns the list of the bytes of all blocks. Raises InvalidBlock."""
    content = []
    for index, number in enumerate(numbers):
        if not is_block(number):
            raise InvalidBlock(index)
        content.extend(block_bytes(number))
    return content


def is_blocks(numbers):
    """Returns True if the integers are the row of the blocks of a content, otherwise False."""
    if len(numbers) > _MOST_BLOCKS:
        return False
    for number in numbers[:-1]:
        if block_size(number) != BLOCK:
            return False
    return len(numbers) == 0 or is_block(numbers[-1])
