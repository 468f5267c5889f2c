"""Words of strangers, whole: what words surely mean, told by all talks together."""
