"""What is left of the weights when several signals are seen as one."""


def merged_weights(weights, mapping):
    """Give the weights after the merge; a signal that no signal is mapped to gets 0."""
    merged = [0] * len(weights)
    for weight, target in zip(weights, mapping):
        merged[target] += weight
    return merged


def merge(model, mapping):
    """Merge the signals of the model."""
    model.test_weights = merged_weights(model.test_weights, mapping)
    model.production_weights = merged_weights(model.production_weights, mapping)
