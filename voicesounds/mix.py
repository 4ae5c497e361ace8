"""A sample of all voices: both sides, through the echo, in 16 bits."""

from voicesounds.echo import echoed
from voicesounds.floats import plus, times
from voicesounds.samples import in_16_bits
from voicesounds.sound import voice_sample


def sample_of_all(voices, echo):
    left = 0
    right = 0
    for voice in voices:
        sample = voice_sample(voice)
        left = plus(left, times(sample, voice.left))
        right = plus(right, times(sample, voice.right))
    sides = echoed(echo, left, right)
    return [in_16_bits(side) for side in sides]
