"""States of images."""


def start_state(image, inputs):
    """The state of an image at its start, with these inputs."""
    boxes = tuple([word for _, _, word in image[1]])
    rows = tuple([(0,) * size for _, _, size in image[2]])
    threads = tuple([(0, (), (0,) * len(widths)) for widths, _ in image[3]])
    return (0, boxes, rows, inputs, threads)


def is_over(state):
    """Whether all threads have ended."""
    return all(thread is None for thread in state[4])
